"""Knowledge bases: an ontology, mappings and tables that change, version after version."""

from factsandfar.answering import certain_answers
from factsandfar.axioms import check_ontology, is_axiom
from factsandfar.conflicts import find_conflict
from factsandfar.errors import (
    Inconsistent, InvalidChange, InvalidMappings, InvalidOntology, InvalidQuery, InvalidTables, UnknownName)
from factsandfar.mappings import check_mappings, is_mapping, mapped_facts
from factsandfar.queries import is_query
from factsandfar.shapes import copied, is_word, tag_of
from factsandfar.tables import check_tables, is_row

CHANGE_FORMS = (
    ("add_axiom", 2),
    ("add_mapping", 2),
    ("add_row", 3),
    ("add_table", 4),
    ("remove_axiom", 2),
    ("remove_mapping", 2),
    ("remove_row", 3),
    ("remove_table", 2),
)

# A state is a tuple (ontology, mappings, tables). It is never changed, so that versions and clones may share it.


def check_state(state):
    ontology, mappings, tables = state
    check_ontology(ontology)
    check_tables(tables)
    check_mappings(tables, mappings)


def is_state(candidate):
    try:
        check_state(candidate)
    except (InvalidOntology, InvalidTables, InvalidMappings):
        return False
    return True


def is_name_of(tables, candidate):
    return is_word(candidate) and candidate in tables


def without_first(items, removed):
    """The items without the first one that equals the removed one."""
    position = items.index(removed)
    return items[:position] + items[position + 1:]


def with_rows(tables, name, rows):
    source, column_count, known = tables[name]
    return {**tables, name: (source, column_count, rows)}


# The functions for the kinds of changes return a state, which may be none of a knowledge base because of what was
# added, or None if what they remove or belong to is not there.


def axiom_added(state, parts):
    ontology, mappings, tables = state
    return (ontology + [parts[0]], mappings, tables)


def axiom_removed(state, parts):
    ontology, mappings, tables = state
    if not is_axiom(parts[0]) or parts[0] not in ontology:
        return None
    return (without_first(ontology, parts[0]), mappings, tables)


def mapping_added(state, parts):
    ontology, mappings, tables = state
    if not is_mapping(tables, parts[0]) or parts[0] in mappings:
        return None
    return (ontology, mappings + [parts[0]], tables)


def mapping_removed(state, parts):
    ontology, mappings, tables = state
    if not is_mapping(tables, parts[0]) or parts[0] not in mappings:
        return None
    return (ontology, without_first(mappings, parts[0]), tables)


def row_added(state, parts):
    ontology, mappings, tables = state
    name, row = parts
    if not is_name_of(tables, name):
        return None
    return (ontology, mappings, with_rows(tables, name, tables[name][2] + [row]))


def row_removed(state, parts):
    ontology, mappings, tables = state
    name, row = parts
    if not is_name_of(tables, name) or not is_row(row, tables[name][1]) or row not in tables[name][2]:
        return None
    return (ontology, mappings, with_rows(tables, name, without_first(tables[name][2], row)))


def table_added(state, parts):
    ontology, mappings, tables = state
    name, source, column_count = parts
    if not is_word(name) or name in tables:
        return None
    return (ontology, mappings, {**tables, name: (source, column_count, [])})


def table_removed(state, parts):
    ontology, mappings, tables = state
    if not is_name_of(tables, parts[0]) or tables[parts[0]][2]:
        return None
    # Mappings that use the table become invalid.
    return (ontology, mappings, {name: tables[name] for name in tables if name != parts[0]})


CHANGES = {
    "add_axiom": axiom_added,
    "remove_axiom": axiom_removed,
    "add_mapping": mapping_added,
    "remove_mapping": mapping_removed,
    "add_row": row_added,
    "remove_row": row_removed,
    "add_table": table_added,
    "remove_table": table_removed,
}


def changed(state, change):
    tag = tag_of(change, CHANGE_FORMS)
    if tag is None:
        raise InvalidChange()
    make_change = CHANGES[tag]
    result = make_change(state, change[1:])
    if result is None or not is_state(result):
        raise InvalidChange()
    return result


def available(tables, offline):
    """The tables without the rows of the sources that are offline."""
    return {name: (source, column_count, [] if source in offline else rows)
            for name, (source, column_count, rows) in tables.items()}


def facts_of(state):
    return mapped_facts(state[1], state[2])


def answers_in_state(state, query):
    """The certain answers in a state, or None if it is inconsistent."""
    try:
        return certain_answers(state[0], facts_of(state), query)
    except Inconsistent:
        return None


def check_query(candidate):
    if not is_query(candidate):
        raise InvalidQuery()


class KnowledgeBase:
    """An ontology, mappings and tables, with all versions that have not been undone, and saved queries."""

    def __init__(self, ontology=(), *, mappings=(), tables=None):
        given = {} if tables is None else tables
        check_state((ontology, mappings, given))
        self.states = [(list(ontology), list(mappings), copied(given))]
        self.saved = {}
        self.events = []

    def __len__(self):
        return len([row for source, column_count, rows in self.states[-1][2].values() for row in rows])

    def __eq__(self, other):
        return isinstance(other, KnowledgeBase) and self.states[-1] == other.states[-1]

    def apply(self, change):
        self.states.append(changed(self.states[-1], change))
        return self.version()

    def undo(self):
        if len(self.states) == 1:
            raise InvalidChange()
        self.states.pop()
        return self.version()

    def apply_all(self, changes):
        # The log tells of each call, also of one that fails below.
        self.events.extend(["begin", "end"])
        if not isinstance(changes, list):
            raise InvalidChange()
        states = list(self.states)
        for change in changes:
            states.append(changed(states[-1], change))
        self.states = states
        return self.version()

    def log(self):
        return list(self.events)

    def ontology(self):
        return list(self.states[-1][0])

    def mappings(self):
        return list(self.states[-1][1])

    def facts(self):
        return facts_of(self.states[-1])

    def tables(self):
        return copied(self.states[-1][2])

    def version(self):
        return len(self.states) - 1

    def clone(self):
        other = KnowledgeBase()
        other.states = list(self.states)
        other.saved = dict(self.saved)
        return other

    def answers(self, query, *, offline=()):
        check_query(query)
        ontology, mappings, tables = self.states[-1]
        return certain_answers(ontology, mapped_facts(mappings, available(tables, offline)), query)

    def save_query(self, name, query):
        if not is_word(name):
            raise UnknownName(name)
        check_query(query)
        self.saved[name] = query

    def saved_answers(self, name):
        if not is_word(name) or name not in self.saved:
            raise UnknownName(name)
        return answers_in_state(self.states[-1], self.saved[name])

    def preview(self, change, query):
        after_change = changed(self.states[-1], change)
        check_query(query)
        now = answers_in_state(self.states[-1], query)
        after = answers_in_state(after_change, query)
        if now is None or after is None:
            return None
        return ([answer for answer in after if answer not in now], [answer for answer in now if answer not in after])

    def inconsistent_since(self):
        since = None
        for number in reversed(range(len(self.states))):
            state = self.states[number]
            if find_conflict(state[0], facts_of(state)) is None:
                return since
            since = number
        return since
