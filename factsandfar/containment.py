"""Which queries have the answers of others on all facts, and facts on which they do not."""

from factsandfar.facts import first_wrong_fact, is_named
from factsandfar.queries import (
    RowSource, answers_of_all, distinct, is_dict_from, is_term, items_of, joined, matched, substituted, variables_of)
from factsandfar.shapes import is_index, unused_word


def frozen(terms):
    """Terms with a tuple in place of each variable, so that they can be what variables stand for."""
    return tuple([(term,) if isinstance(term, str) else term for term in terms])


def find_map(one, other):
    """A dict from the variables of one pair (answer terms, items) that turns it into a part of the other, or None."""
    start = matched(one[0], frozen(other[0]))
    if start is None:
        return None
    source = RowSource([(label, frozen(terms)) for label, terms in other[1]])
    states = joined(source, one[1], variables_of(one[1]), [start])
    if not states:
        return None
    return {variable: part[0] if len(part) == 1 else part for variable, part in states[0].items()}


def find_homomorphism(one, other):
    return find_map((one[0], items_of(one[1])), (other[0], items_of(other[1])))


def is_homomorphism(one, other, candidate):
    if not is_dict_from(candidate, variables_of(items_of(one[1]))):
        return False
    if not all([is_term(term) for term in candidate.values()]):
        return False
    patterns = [label + substituted(candidate, terms) for label, terms in items_of(one[1])]
    return all([pattern in other[1] for pattern in patterns]) and substituted(candidate, one[0]) == other[0]


def is_contained(query, others):
    """True if one of the others has the answers of a query on all facts."""
    for other in others:
        if find_homomorphism(other, query) is not None:
            return True
    return False


def is_dropped(queries, index):
    query = queries[index]
    if is_contained(query, queries[:index]):
        return True
    for other in queries[index + 1:]:
        if is_contained(query, [other]) and not is_contained(other, [query]):
            return True
    return False


def minimize(queries):
    return [query for index, query in enumerate(queries) if not is_dropped(queries, index)]


def words_of(queries):
    """The words of the named individuals in queries."""
    terms = [term for answer_terms, patterns in queries for term in answer_terms]
    terms.extend([term for answer_terms, patterns in queries for pattern in patterns for term in pattern[2:]])
    return [term[0] for term in terms if not isinstance(term, str)]


def example_of(query, word):
    """Facts on which a query has an answer, with an individual of its own for each variable, and the answer."""
    answer_terms, patterns = query
    items = items_of(patterns)
    state = {variable: (word, variable) for variable in variables_of(items)}
    facts = distinct([label + substituted(state, terms) for label, terms in items])
    return facts, substituted(state, answer_terms)


def find_separation(one, other):
    word = unused_word(words_of(list(one) + list(other)))
    for which, queries, others in ((0, one, other), (1, other, one)):
        for query in queries:
            if not is_contained(query, others):
                facts, answer = example_of(query, word)
                return (which, facts, answer)
    return None


def is_separation(one, other, candidate):
    if not isinstance(candidate, tuple) or len(candidate) != 3:
        return False
    which, facts, answer = candidate
    if not is_index(which, 2) or not isinstance(facts, (list, tuple)) or first_wrong_fact(facts) is not None:
        return False
    if not isinstance(answer, tuple) or not all([is_named(individual) for individual in answer]):
        return False
    having, lacking = (one, other) if which == 0 else (other, one)
    return answer in answers_of_all(facts, having) and answer not in answers_of_all(facts, lacking)
