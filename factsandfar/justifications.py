"""Minimal sets of rows that justify an answer, and minimal sets of rows that cause a conflict."""

from factsandfar.conflicts import membership_clashes, role_clashes
from factsandfar.derivations import derived_memberships, derived_roles
from factsandfar.emptiness import find_emptiness_certificate
from factsandfar.errors import LimitExceeded
from factsandfar.mappings import facts_with_provenance, row_terms
from factsandfar.matching import check_answer
from factsandfar.queries import RowSource, distinct, joined, matched, position_of_next, substituted, variables_of
from factsandfar.rewriting import rewrite
from factsandfar.subsumption import contains_one_of, indexes_of
from factsandfar.unfolding import unfold

MOST_SETS = 64

# A set of rows is an integer with one bit for each row, in the order of the row ids.


def row_ids(tables):
    return [(table, position) for table in sorted(tables) for position in range(len(tables[table][2]))]


def size_of(bits):
    size = 0
    while bits:
        bits = bits & (bits - 1)
        size += 1
    return size


def sorted_sets(tables, sets):
    """Sets of rows as ascending tuples of row ids, sorted."""
    rows = row_ids(tables)
    return sorted([tuple([rows[index] for index in indexes_of(bits, len(rows))]) for bits in sets])


def check_count(sets):
    if len(sets) > MOST_SETS:
        raise LimitExceeded(MOST_SETS)


class RowFinder:
    """Finds the sets of rows on which the items of table queries become rows."""

    def __init__(self, tables):
        self.bits_of_rows = {}
        for number, (table, position) in enumerate(row_ids(tables)):
            self.bits_of_rows[(table, row_terms(tables[table][2][position]))] = 1 << number
        self.all_rows = RowSource(list(self.bits_of_rows))

    def has_sets(self, body, state):
        return joined(self.all_rows, body, [], [state]) != []

    def longer_states(self, item, state, used):
        """The pairs (state, bits) after one more item has become a row."""
        table, terms = item
        known = substituted(state, terms)
        longer = []
        for row in self.all_rows.matches(table, known):
            more = matched(known, row)
            if more is not None:
                longer.append(({**state, **more}, used | self.bits_of_rows[(table, row)]))
        return longer

    def sets_for(self, body, state, size, known):
        """The sets of at most so many rows on which a body has a match, apart from those that contain a known set."""
        remaining = list(body)
        found = [(state, 0)]
        while remaining and found:
            item = remaining.pop(position_of_next(remaining, found[0][0]))
            needed = variables_of(remaining)
            kept = {}
            for before, used in found:
                for after, bits in self.longer_states(item, before, used):
                    values = tuple([after.get(variable) for variable in needed])
                    if (values, bits) not in kept and size_of(bits) <= size and not contains_one_of(bits, known):
                        kept[(values, bits)] = {variable: after[variable] for variable in needed if variable in after}
            found = [(kept[key], key[1]) for key in kept]
        return distinct([bits for state, bits in found])


def answered_bodies(finder, queries, answer):
    """The bodies of the table queries that have an answer, each with the state in which it has this answer."""
    bodies = []
    for answer_terms, body in queries:
        state = None
        if [word for word, term in answer_terms] == [word for word, part in answer]:
            state = matched([term for word, term in answer_terms], row_terms([part for word, part in answer]))
        if state is not None and finder.has_sets(body, state):
            bodies.append((body, state))
    return bodies


def answer_justifications(ontology, mappings, tables, query, answer):
    check_answer(query, answer)
    queries = unfold(mappings, [rewritten for rewritten, step in rewrite(ontology, query)])
    finder = RowFinder(tables)
    bodies = answered_bodies(finder, queries, answer)
    found = []
    # Small sets come first, so that no set contains one that is found later.
    for size in range(1, 1 + max([len(body) for body, state in bodies], default=0)):
        for body, state in bodies:
            more = finder.sets_for(body, state, size, found)
            found.extend(more)
            check_count(found)
    return sorted_sets(tables, found)


def sets_by_fact(mappings, tables):
    """For each fact that mappings produce, the sets of rows from which they produce it."""
    numbers = {row: number for number, row in enumerate(row_ids(tables))}
    sets = {}
    for fact, index, ids in facts_with_provenance(mappings, tables):
        bits = 0
        for row in ids:
            bits = bits | (1 << numbers[row])
        sets.setdefault(fact, {})[bits] = True
    return sets


def sets_by_consequence(ontology, sets, consequences_of):
    """For each consequence of the facts, the sets of rows of the facts from which it follows."""
    found = {}
    for fact in sets:
        for consequence in consequences_of(ontology, [fact]):
            found.setdefault(consequence, {}).update(sets[fact])
    return found


def united(sets, clashes):
    """The unions of two sets of rows, one for each side of a clash."""
    return {one | other: True for first, second in clashes for one in sets[first] for other in sets[second]}


def minimal_sets(sets):
    found = []
    for size, bits in sorted([(size_of(bits), bits) for bits in sets]):
        if not contains_one_of(bits, found):
            found.append(bits)
            check_count(found)
    return found


def conflict_sets(ontology, mappings, tables):
    sets = sets_by_fact(mappings, tables)
    members = sets_by_consequence(ontology, sets, derived_memberships)
    roles = sets_by_consequence(ontology, sets, derived_roles)
    conflicting = {}
    for axiom in ontology:
        conflicting.update(united(members, membership_clashes(axiom, members)))
        conflicting.update(united(roles, role_clashes(axiom, roles)))
    # What is left are conflicts among unnamed individuals, which follow from a single fact.
    empty = {concept: find_emptiness_certificate(ontology, concept) for individual, concept in members}
    for individual, concept in members:
        if empty[concept] is not None:
            conflicting.update(members[(individual, concept)])
    return sorted_sets(tables, minimal_sets(conflicting))
