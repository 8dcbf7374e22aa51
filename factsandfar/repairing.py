"""Repairs: minimal sets of rows to remove so that no conflict is left, and the answers after them."""

from factsandfar.answering import certain_answers
from factsandfar.errors import LimitExceeded
from factsandfar.justifications import conflict_sets, size_of
from factsandfar.mappings import mapped_facts
from factsandfar.subsumption import indexes_of

MOST_HITTING_SETS = 64

# A set of items is an integer with one bit for each item.


def united_bits(bits, members):
    whole = 0
    for item in members:
        whole = whole | bits[item]
    return whole


def is_irredundant(edges, chosen):
    """True if each chosen bit is the only chosen one in some edge."""
    needed = 0
    for edge in edges:
        if size_of(edge & chosen) == 1:
            needed = needed | (edge & chosen)
    return needed == chosen


def extended_choices(edges, chosen, allowed, edge):
    """The pairs (chosen, allowed) with one more bit of an edge; no bit is allowed that a later pair begins with."""
    options = edge & allowed
    allowed = allowed ^ options
    choices = []
    for index in indexes_of(options, options.bit_length()):
        bit = 1 << index
        if is_irredundant(edges, chosen | bit):
            choices.append((chosen | bit, allowed))
        allowed = allowed | bit
    return choices


def hitting_bits(edges, everything):
    found = []
    waiting = [(0, everything)]
    while waiting:
        chosen, allowed = waiting.pop()
        missed = [edge for edge in edges if (edge & chosen) == 0]
        if missed:
            # Where there are few options, little is tried in vain.
            fewest, edge = min([(size_of(edge & allowed), edge) for edge in missed])
            waiting.extend(extended_choices(edges, chosen, allowed, edge))
        else:
            found.append(chosen)
        if len(found) > MOST_HITTING_SETS:
            raise LimitExceeded(MOST_HITTING_SETS)
    return found


def minimal_hitting_sets(sets):
    items = sorted({item: True for members in sets for item in members})
    bits = {item: 1 << number for number, item in enumerate(items)}
    edges = [united_bits(bits, members) for members in sets]
    found = hitting_bits(edges, (1 << len(items)) - 1)
    return sorted([tuple([items[index] for index in indexes_of(chosen, len(items))]) for chosen in found])


def repairs(ontology, mappings, tables):
    return minimal_hitting_sets(conflict_sets(ontology, mappings, tables))


def remove_rows(tables, rows):
    kept = {}
    for name, (source, column_count, known) in tables.items():
        kept[name] = (source, column_count, [row for position, row in enumerate(known) if (name, position) not in rows])
    return kept


def answers_after_repairs(ontology, mappings, tables, query):
    """The certain answers after each repair, one list for each."""
    found = []
    for rows in repairs(ontology, mappings, tables):
        facts = mapped_facts(mappings, remove_rows(tables, rows))
        found.append(certain_answers(ontology, facts, query))
    return found


def consistent_answers(ontology, mappings, tables, query):
    lists = answers_after_repairs(ontology, mappings, tables, query)
    return [answer for answer in lists[0] if all([answer in answers for answers in lists])]


def possible_answers(ontology, mappings, tables, query):
    lists = answers_after_repairs(ontology, mappings, tables, query)
    return sorted({answer: True for answers in lists for answer in answers})
