"""Tables of rows from several sources, and constraints on them."""

from factsandfar.errors import InvalidConstraints, InvalidTables
from factsandfar.shapes import is_index, is_integer, is_value, is_word, tag_of

MOST_TABLES = 4
MOST_COLUMNS = 3
MOST_ROWS = 12
MOST_CONSTRAINTS = 8
CONSTRAINT_FORMS = (("key", 3), ("foreign_key", 5))


def is_row(candidate, column_count):
    return (isinstance(candidate, tuple) and len(candidate) == column_count
            and all([is_value(part) for part in candidate]))


def are_rows(candidate, column_count):
    if not isinstance(candidate, list) or len(candidate) > MOST_ROWS:
        return False
    if not all([is_row(row, column_count) for row in candidate]):
        return False
    return len(set(candidate)) == len(candidate)


def is_table(candidate):
    """True for a tuple (source, column_count, rows)."""
    if not isinstance(candidate, tuple) or len(candidate) != 3:
        return False
    source, column_count, rows = candidate
    if not is_word(source) or not is_integer(column_count) or not 1 <= column_count <= MOST_COLUMNS:
        return False
    return are_rows(rows, column_count)


def check_tables(candidate):
    if not isinstance(candidate, dict) or len(candidate) > MOST_TABLES:
        raise InvalidTables(None)
    if not all([is_word(key) for key in candidate]):
        raise InvalidTables(None)
    for name in sorted(candidate):
        if not is_table(candidate[name]):
            raise InvalidTables(name)


def is_column(tables, table, column):
    return is_word(table) and table in tables and is_index(column, tables[table][1])


def is_constraint(tables, candidate):
    tag = tag_of(candidate, CONSTRAINT_FORMS)
    if tag is None or not is_column(tables, candidate[1], candidate[2]):
        return False
    return tag == "key" or is_column(tables, candidate[3], candidate[4])


def check_constraints(tables, candidate):
    if not isinstance(candidate, list) or len(candidate) > MOST_CONSTRAINTS:
        raise InvalidConstraints(None)
    for index, item in enumerate(candidate):
        if not is_constraint(tables, item):
            raise InvalidConstraints(index)


def column_values(tables, table, column):
    return [row[column] for row in tables[table][2]]


def is_satisfied(tables, constraint):
    own = column_values(tables, constraint[1], constraint[2])
    if constraint[0] == "key":
        return len(set(own)) == len(own)
    known = column_values(tables, constraint[3], constraint[4])
    return all([part in known for part in own])


def violated_constraints(tables, constraints):
    return [index for index, constraint in enumerate(constraints) if not is_satisfied(tables, constraint)]
