"""Chains of axioms from one concept to another."""

from factsandfar.axioms import ROLE_INCLUSIONS, check_concept, check_direction, is_direction, second_direction
from factsandfar.errors import LimitExceeded
from factsandfar.shapes import is_index

MOST_CHAIN_STEPS = 40
MOST_JUSTIFICATIONS = 64


def led_to(axiom, concept, roles_only=False):
    """The concept to which an axiom leads from a concept, or None."""
    if axiom[0] == "subclass" and axiom[1] == concept and not roles_only:
        return axiom[2]
    if axiom[0] in ROLE_INCLUSIONS and is_direction(concept) and axiom[1] == concept[1]:
        return second_direction(axiom, concept)
    return None


def chains_from(ontology, concept, roles_only=False):
    """A shortest chain from a concept to each of its superconcepts, by superconcept."""
    chains = {concept: []}
    latest = [concept]
    while latest and len(chains[latest[0]]) < MOST_CHAIN_STEPS:
        found = []
        for start in latest:
            for index, axiom in enumerate(ontology):
                reached = led_to(axiom, start, roles_only)
                if reached is not None and reached not in chains:
                    chains[reached] = chains[start] + [index]
                    found.append(reached)
        latest = found
    return chains


def superconcepts(ontology, concept):
    check_concept(concept)
    return sorted(chains_from(ontology, concept))


def find_chain(ontology, one, other, *, roles_only=False):
    for concept in (one, other):
        check_concept(concept)
        if roles_only:
            check_direction(concept)
    return chains_from(ontology, one, roles_only).get(other)


def is_chain(ontology, one, other, candidate, *, roles_only=False):
    if not isinstance(candidate, list) or len(candidate) > MOST_CHAIN_STEPS:
        return False
    reached = one
    for index in candidate:
        if not is_index(index, len(ontology)):
            return False
        reached = led_to(ontology[index], reached, roles_only)
        if reached is None:
            return False
    return reached == other


def contains_one_of(bits, sets):
    return any([(known & bits) == known for known in sets])


def axiom_sets_from(ontology, concept):
    """For each superconcept, sets of axioms that suffice for a chain, as bits; every minimal set is among them."""
    sets = {concept: [0]}
    latest = [(concept, 0)]
    # A set that contains an earlier one has no shorter chain, so it adds nothing here or later.
    for steps in range(MOST_CHAIN_STEPS):
        found = []
        for start, used in latest:
            for index, axiom in enumerate(ontology):
                reached = led_to(axiom, start)
                bits = used | (1 << index)
                if reached is not None and not contains_one_of(bits, sets.get(reached, [])):
                    sets[reached] = sets.get(reached, []) + [bits]
                    found.append((reached, bits))
        latest = found
    return sets


def indexes_of(bits, count):
    return tuple([index for index in range(count) if (bits >> index) & 1])


def chain_justifications(ontology, one, other):
    check_concept(one)
    check_concept(other)
    sets = axiom_sets_from(ontology, one).get(other, [])
    minimal = [bits for bits in sets if not contains_one_of(bits, [less for less in sets if less != bits])]
    if len(minimal) > MOST_JUSTIFICATIONS:
        raise LimitExceeded(MOST_JUSTIFICATIONS)
    return sorted([indexes_of(bits, len(ontology)) for bits in minimal])
