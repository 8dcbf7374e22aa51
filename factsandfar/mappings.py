"""Mappings, and the facts that they produce from the rows of tables."""

from factsandfar.errors import InvalidMappings
from factsandfar.facts import terms_of
from factsandfar.queries import distinct, matched, substituted, variables_of
from factsandfar.shapes import is_value, is_word, tag_of

MOST_MAPPINGS = 8
MOST_BODY_ITEMS = 2


def is_table_term(candidate):
    """True for a variable or a tuple ("value", value)."""
    return is_word(candidate) or (tag_of(candidate, (("value", 2),)) is not None and is_value(candidate[1]))


def is_body_item(tables, candidate):
    if not isinstance(candidate, tuple) or len(candidate) != 2:
        return False
    table, terms = candidate
    if not is_word(table) or table not in tables:
        return False
    return (isinstance(terms, tuple) and len(terms) == tables[table][1]
            and all([is_table_term(term) for term in terms]))


def is_template(candidate, variables):
    return (isinstance(candidate, tuple) and len(candidate) == 2 and is_word(candidate[0])
            and is_word(candidate[1]) and candidate[1] in variables)


def is_mapping(tables, candidate):
    if not isinstance(candidate, tuple) or len(candidate) != 2:
        return False
    body, head = candidate
    if not isinstance(body, tuple) or not 1 <= len(body) <= MOST_BODY_ITEMS:
        return False
    if not all([is_body_item(tables, item) for item in body]):
        return False
    variables = variables_of(body)
    templates = terms_of(head)
    return len(templates) > 0 and all([is_template(template, variables) for template in templates])


def check_mappings(tables, candidate):
    if not isinstance(candidate, (list, tuple)) or len(candidate) > MOST_MAPPINGS:
        raise InvalidMappings(None)
    for index, item in enumerate(candidate):
        if not is_mapping(tables, item):
            raise InvalidMappings(index)


def row_terms(row):
    """A row, written with the constants that stand for its values."""
    return tuple([("value", part) for part in row])


def body_matches(tables, body):
    """The pairs (state, row ids) in which each body item is a row."""
    found = [({}, ())]
    for table, terms in body:
        longer = []
        for state, ids in found:
            for position, row in enumerate(tables[table][2]):
                more = matched(substituted(state, terms), row_terms(row))
                if more is not None:
                    longer.append(({**state, **more}, ids + ((table, position),)))
        found = longer
    return found


def produced_fact(head, state):
    return head[:2] + tuple([(word, state[variable][1]) for word, variable in head[2:]])


def facts_with_provenance(mappings, tables):
    found = []
    for index, (body, head) in enumerate(mappings):
        for state, ids in body_matches(tables, body):
            found.append((produced_fact(head, state), index, ids))
    return sorted(found)


def mapped_facts(mappings, tables):
    return sorted(distinct([fact for fact, index, ids in facts_with_provenance(mappings, tables)]))
