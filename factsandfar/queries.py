"""Queries: their form, when two are isomorphic, and their answers on facts."""

from factsandfar.facts import is_named, terms_of
from factsandfar.shapes import is_word

MOST_PATTERNS = 4
MOST_ANSWER_TERMS = 3

# Queries and table queries consist of items (label, terms). A term is a variable, which is a string, or it is a tuple.


def items_of(patterns):
    """The items of patterns, or of facts."""
    return [(pattern[:2], pattern[2:]) for pattern in patterns]


def variables_in(terms):
    """The variables among terms, each once."""
    return list({term: True for term in terms if isinstance(term, str)})


def variables_of(items):
    """The variables of items, each once."""
    return variables_in([term for label, terms in items for term in terms])


def distinct(values):
    return list({value: True for value in values})


def is_term(candidate):
    return is_word(candidate) or is_named(candidate)


def is_pattern(candidate):
    terms = terms_of(candidate)
    return len(terms) > 0 and all([is_term(term) for term in terms])


def is_query(candidate):
    if not isinstance(candidate, tuple) or len(candidate) != 2:
        return False
    answer_terms, patterns = candidate
    if not isinstance(answer_terms, tuple) or len(answer_terms) > MOST_ANSWER_TERMS:
        return False
    if not isinstance(patterns, tuple) or not 1 <= len(patterns) <= MOST_PATTERNS:
        return False
    if not all([is_pattern(pattern) for pattern in patterns]):
        return False
    variables = variables_of(items_of(patterns))
    return all([is_named(term) or (is_word(term) and term in variables) for term in answer_terms])


def is_answer_tuple(query, candidate):
    return (isinstance(candidate, tuple) and len(candidate) == len(query[0])
            and all([is_named(individual) for individual in candidate]))


def is_dict_from(candidate, variables):
    """True for a dict whose keys are exactly these variables."""
    if not isinstance(candidate, dict) or not all([isinstance(key, str) for key in candidate]):
        return False
    return sorted(candidate) == sorted(variables)


# What is equal up to the names of variables is compared as a pair (answers, items): answers are pairs (label, term),
# and the items are distinct.


def query_structure(query):
    answer_terms, patterns = query
    return [("", term) for term in answer_terms], distinct(items_of(patterns))


def seen_from(variable, terms):
    """Terms without the names of variables, apart from the places of one of them."""
    return tuple([("", "this" if term == variable else "other") if isinstance(term, str) else term for term in terms])


def colours_of(structure):
    """For each variable a text that says where it occurs and does not depend on the names of variables."""
    answers, items = structure
    uses = {variable: [] for variable in variables_of(items)}
    for label, terms in items:
        for variable in variables_in(terms):
            uses[variable].append(repr((label, seen_from(variable, terms))))
    for position, (label, term) in enumerate(answers):
        if isinstance(term, str):
            uses[term].append(f"answer {position}")
    return {variable: " ".join(sorted(uses[variable])) for variable in uses}


def coloured(structure):
    """The structure, each label with the colours of the terms beside it."""
    colours = colours_of(structure)
    answers, items = structure
    return ([((label, colours.get(term, repr(term))), term) for label, term in answers],
            [((label, tuple([colours.get(term, repr(term)) for term in terms])), terms) for label, terms in items])


def signature_of(structure):
    """Something that is equal for isomorphic structures and mostly different for others."""
    answers, items = structure
    return tuple([label for label, term in answers]), tuple(sorted([label for label, terms in items]))


def extended_renaming(renaming, terms, others):
    """The renaming of variables, extended so that it turns terms into others, or None."""
    result = dict(renaming)
    for term, other in zip(terms, others):
        if not isinstance(term, str) or not isinstance(other, str):
            if term != other:
                return None
        elif term in result or other in list(result.values()):
            if result.get(term) != other:
                return None
        else:
            result[term] = other
    return result


def can_be_renamed(items, others, renaming):
    """True if the renaming can be extended so that it turns each of the items into one of the others."""
    # Different variables keep different names, so that equally many distinct items become all of the others.
    if not items:
        return True
    label, terms = items[0]
    for other_label, other_terms in others:
        if label == other_label:
            extended = extended_renaming(renaming, terms, other_terms)
            if extended is not None and can_be_renamed(items[1:], others, extended):
                return True
    return False


def are_isomorphic(one, other):
    """True if two coloured structures with the same signature are isomorphic."""
    start = extended_renaming({}, [term for label, term in one[0]], [term for label, term in other[0]])
    return start is not None and can_be_renamed(one[1], other[1], start)


class IsomorphismClasses:
    """Structures of which isomorphic ones count once."""

    def __init__(self):
        self.by_signature = {}

    def contains(self, structure):
        own = coloured(structure)
        return any([are_isomorphic(own, known) for known in self.by_signature.get(signature_of(own), [])])

    def include(self, structure):
        """Includes a structure; returns False if an isomorphic one was there, else True."""
        own = coloured(structure)
        similar = self.by_signature.setdefault(signature_of(own), [])
        if any([are_isomorphic(own, known) for known in similar]):
            return False
        similar.append(own)
        return True


def is_isomorphic(one, other):
    classes = IsomorphismClasses()
    classes.include(query_structure(one))
    return classes.contains(query_structure(other))


# A state is a dict from variables to what they stand for, and all states in a list have the same variables. Matches
# are looked up in a source: an object whose method `matches` returns rows for a label and terms, among them all
# rows that the terms can become.


class RowSource:
    """Rows with labels; what stands in a row is a tuple."""

    def __init__(self, items):
        self.by_label = {}
        self.by_place = {}
        for label, row in items:
            self.by_label.setdefault(label, []).append(row)
            for position, part in enumerate(row):
                self.by_place.setdefault((label, position, part), []).append(row)

    def matches(self, label, terms):
        for position, term in enumerate(terms):
            if not isinstance(term, str):
                return self.by_place.get((label, position, term), [])
        return self.by_label.get(label, [])


def matched(terms, row):
    """The state in which terms become a row, or None."""
    if len(terms) != len(row):
        return None
    state = {}
    for term, part in zip(terms, row):
        if isinstance(term, str):
            term = state.setdefault(term, part)
        if term != part:
            return None
    return state


def substituted(state, terms):
    return tuple([state.get(term, term) for term in terms])


def extended_states(source, item, states):
    label, terms = item
    found = []
    for state in states:
        known = substituted(state, terms)
        for row in source.matches(label, known):
            more = matched(known, row)
            if more is not None:
                found.append({**state, **more})
    return found


def restricted_states(states, variables):
    """The distinct states that remain if only some variables are kept."""
    rows = distinct([tuple([state[variable] for variable in variables]) for state in states])
    return [dict(zip(variables, row)) for row in rows]


def position_of_next(items, bound):
    """The position of the item to join next: one with a known term if there is one, then with few new variables."""
    ranks = []
    for position, (label, terms) in enumerate(items):
        unknown = [term for term in terms if isinstance(term, str) and term not in bound]
        ranks.append((len(unknown) == len(terms), len(variables_in(unknown)), position))
    return min(ranks)[2]


def joined(source, items, kept, states):
    """The distinct states of the kept variables to which states can be extended so that all items have a match."""
    remaining = list(items)
    while remaining and states:
        item = remaining.pop(position_of_next(remaining, states[0]))
        states = extended_states(source, item, states)
        # What no later item needs is dropped at once, so that the states do not multiply.
        bound = [] if not states else list(states[0])
        needed = variables_of(remaining) + list(kept)
        states = restricted_states(states, [variable for variable in bound if variable in needed])
    return states


def answers_in(source, query):
    answer_terms, patterns = query
    states = joined(source, items_of(patterns), variables_in(answer_terms), [{}])
    return [substituted(state, answer_terms) for state in states]


def answers_of_all(facts, queries):
    """The answers of several queries on facts, sorted and without duplicates."""
    source = RowSource(items_of(facts))
    return sorted(distinct([answer for query in queries for answer in answers_in(source, query)]))


def evaluate(facts, query):
    return answers_of_all(facts, [query])


# Bindings say which variables have been made equal to which terms.


def resolved(bindings, term):
    while term in bindings:
        term = bindings[term]
    return term


def resolved_terms(bindings, terms):
    return tuple([resolved(bindings, term) for term in terms])


def equated(bindings, one, other):
    """The bindings, extended so that two terms are equal, or None."""
    first, second = resolved(bindings, one), resolved(bindings, other)
    if first == second:
        return bindings
    if isinstance(first, str):
        return {**bindings, first: second}
    if isinstance(second, str):
        return {**bindings, second: first}
    return None
