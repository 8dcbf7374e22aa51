"""What follows from two ontologies together and not from the first one alone."""

from factsandfar.axioms import check_ontology, concepts_of
from factsandfar.emptiness import find_emptiness_certificate
from factsandfar.errors import InvalidOntology
from factsandfar.subsumption import chains_from


def is_empty(ontology, concept):
    return find_emptiness_certificate(ontology, concept) is not None


def new_pairs(ontology, combined, starts, ends, roles_only):
    """The pairs of a start and an end, in their order, with a chain between them in the combined ontology only."""
    pairs = []
    for start in starts:
        before = chains_from(ontology, start, roles_only)
        after = chains_from(combined, start, roles_only)
        pairs.extend([(start, end) for end in ends if end in after and end not in before])
    return pairs


def new_consequences(ontology, more):
    if not isinstance(more, (list, tuple)):
        raise InvalidOntology(None)
    combined = list(ontology) + list(more)
    check_ontology(combined)
    concepts = concepts_of(ontology)
    empty = [concept for concept in concepts if is_empty(combined, concept)]
    others = [concept for concept in concepts if concept not in empty]
    # No role step leads from or to a concept name, so the pairs with role steps only are pairs of directions.
    return (new_pairs(ontology, combined, others, concepts, False),
            new_pairs(ontology, combined, others, concepts, True),
            [concept for concept in empty if not is_empty(ontology, concept)])
