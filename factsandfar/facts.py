"""Facts about named individuals, and what a fact says of its individuals."""

from factsandfar.errors import InvalidFacts
from factsandfar.shapes import is_value, is_word, tag_of

FACT_FORMS = (("concept", 3), ("role", 4))


def is_named(candidate):
    return (isinstance(candidate, tuple) and len(candidate) == 2
            and is_word(candidate[0]) and is_value(candidate[1]))


def terms_of(candidate):
    """The terms of a value that has the form of a fact, whatever they are; none for any other value."""
    if tag_of(candidate, FACT_FORMS) is None or not is_word(candidate[1]):
        return []
    return list(candidate[2:])


def is_fact(candidate):
    """True for a fact about named individuals."""
    terms = terms_of(candidate)
    return len(terms) > 0 and all([is_named(term) for term in terms])


def first_wrong_fact(items):
    """The index of the first item that is not a fact or equals an earlier one, or None."""
    seen = {}
    for index, item in enumerate(items):
        if not is_fact(item) or item in seen:
            return index
        seen[item] = True
    return None


def check_facts(candidate):
    if not isinstance(candidate, (list, tuple)):
        raise InvalidFacts(None)
    index = first_wrong_fact(candidate)
    if index is not None:
        raise InvalidFacts(index)


def memberships(fact):
    """The pairs (individual, concept) that a fact states."""
    if fact[0] == "concept":
        return [(fact[2], ("concept", fact[1]))]
    return [(fact[2], ("out", fact[1])), (fact[3], ("in", fact[1]))]


def member_of(fact, concept):
    """The individual of which a fact says that it belongs to a concept, or None."""
    for individual, stated in memberships(fact):
        if stated == concept:
            return individual
    return None


def role_fact(direction, individual, neighbour):
    """The fact that a direction leads from an individual to a neighbour."""
    if direction[0] == "out":
        return ("role", direction[1], individual, neighbour)
    return ("role", direction[1], neighbour, individual)
