"""Concepts, axioms and ontologies."""

from factsandfar.errors import InvalidConcept, InvalidOntology
from factsandfar.shapes import is_word, tag_of

MOST_AXIOMS = 16
CONCEPT_FORMS = (("concept", 2), ("out", 2), ("in", 2))
DIRECTION_FORMS = (("out", 2), ("in", 2))
AXIOM_FORMS = (
    ("subclass", 3),
    ("disjoint", 3),
    ("subrole", 3),
    ("subrole_inverse", 3),
    ("disjoint_roles", 3),
    ("disjoint_inverse", 3),
    ("functional", 2),
)
ROLE_INCLUSIONS = ("subrole", "subrole_inverse")
ROLE_DISJOINTNESSES = ("disjoint_roles", "disjoint_inverse")
# With one of these tags, the second role is used against its direction.
REVERSING = ("subrole_inverse", "disjoint_inverse")


def is_concept(candidate):
    return tag_of(candidate, CONCEPT_FORMS) is not None and is_word(candidate[1])


def is_direction(candidate):
    return tag_of(candidate, DIRECTION_FORMS) is not None and is_word(candidate[1])


def is_axiom(candidate):
    tag = tag_of(candidate, AXIOM_FORMS)
    if tag is None:
        return False
    if tag == "functional":
        return is_direction(candidate[1])
    if tag in ("subclass", "disjoint"):
        return is_concept(candidate[1]) and is_concept(candidate[2])
    return is_word(candidate[1]) and is_word(candidate[2])


def superroles(items):
    """The roles that no functional axiom may use, whatever else stands among the items."""
    return [item[2] for item in items if is_axiom(item) and item[0] in ROLE_INCLUSIONS]


def check_ontology(candidate):
    if not isinstance(candidate, (list, tuple)) or len(candidate) > MOST_AXIOMS:
        raise InvalidOntology(None)
    forbidden = superroles(candidate)
    for index, item in enumerate(candidate):
        if not is_axiom(item) or item in candidate[:index]:
            raise InvalidOntology(index)
        if item[0] == "functional" and item[1][1] in forbidden:
            raise InvalidOntology(index)


def check_concept(candidate):
    if not is_concept(candidate):
        raise InvalidConcept()


def check_direction(candidate):
    if not is_direction(candidate):
        raise InvalidConcept()


def inverse(direction):
    check_direction(direction)
    return ("in" if direction[0] == "out" else "out", direction[1])


def second_direction(axiom, direction):
    """Where a direction of the first role of an axiom about two roles has the second role."""
    same = (direction[0], axiom[2])
    return inverse(same) if axiom[0] in REVERSING else same


def concepts_in(part):
    """The concepts of an ontology that a part of an axiom, a concept or a role name, brings in."""
    if isinstance(part, str):
        return [("out", part), ("in", part)]
    if part[0] == "concept":
        return [part]
    return [part, inverse(part)]


def concepts_of(ontology):
    found = {}
    for axiom in ontology:
        for part in axiom[1:]:
            for concept in concepts_in(part):
                found[concept] = True
    return sorted(found)
