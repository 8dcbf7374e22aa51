"""Ontologies, facts, queries, tables and mappings as text, and back."""

from factsandfar.axioms import check_ontology, is_axiom
from factsandfar.errors import InvalidOntology, ParseError
from factsandfar.facts import first_wrong_fact, is_fact
from factsandfar.mappings import MOST_MAPPINGS, is_mapping
from factsandfar.queries import is_pattern, is_query, is_term
from factsandfar.shapes import is_word
from factsandfar.tables import MOST_COLUMNS, MOST_ROWS, MOST_TABLES, is_row

COUNTS = ("1", "2", "3")


def axiom_text(axiom):
    return " ".join([part if isinstance(part, str) else " ".join(part) for part in axiom])


def term_text(term):
    """A variable, or a named individual or template with a dot."""
    return term if isinstance(term, str) else ".".join(term)


def fact_text(fact):
    """A fact, a pattern or the head of a mapping."""
    return " ".join(list(fact[:2]) + [term_text(term) for term in fact[2:]])


def item_text(item):
    table, terms = item
    return " ".join([table] + [term if isinstance(term, str) else f"={term[1]}" for term in terms])


def mapping_text(mapping):
    body, head = mapping
    items = " ; ".join([item_text(item) for item in body])
    return f"map {fact_text(head)} | {items}"


def table_lines(name, table):
    source, column_count, rows = table
    return [f"table {name} {source} {column_count}"] + [" ".join(["row"] + list(row)) for row in rows]


def format_ontology(ontology):
    return "\n".join([axiom_text(axiom) for axiom in ontology])


def format_facts(facts):
    return "\n".join([fact_text(fact) for fact in facts])


def format_query(query):
    answer_terms, patterns = query
    start = " ".join(["ask"] + [term_text(term) for term in answer_terms])
    rest = " ; ".join([fact_text(pattern) for pattern in patterns])
    return f"{start} | {rest}"


def format_tables(tables):
    return "\n".join([line for name in sorted(tables) for line in table_lines(name, tables[name])])


def format_mappings(mappings):
    return "\n".join([mapping_text(mapping) for mapping in mappings])


# The functions called .._from take the words of a line and return what it stands for, or None if the line does not have
# the form. Whether a word is one is left to the tests of the result.


def split_at(words, mark):
    """The lists of words between the marks."""
    parts = [[]]
    for word in words:
        if word == mark:
            parts.append([])
        else:
            parts[-1].append(word)
    return parts


def axiom_from(words):
    if words[:1] in (["subclass"], ["disjoint"]):
        candidate = (words[0], tuple(words[1:3]), tuple(words[3:]))
    elif words[:1] == ["functional"]:
        candidate = (words[0], tuple(words[1:]))
    else:
        candidate = tuple(words)
    return candidate if is_axiom(candidate) else None


def term_from(word):
    return tuple(word.split(".")) if "." in word else word


def terms_from(words):
    return tuple([term_from(word) for word in words])


def fact_from(words):
    candidate = tuple(words[:2]) + terms_from(words[2:])
    return candidate if is_fact(candidate) else None


def item_from(words):
    """A body item, or something that is none if there are no words."""
    return (" ".join(words[:1]), tuple([("value", word[1:]) if word[:1] == "=" else word for word in words[1:]]))


def mapping_from(words):
    parts = split_at(words[1:], "|")
    if words[:1] != ["map"] or len(parts) != 2:
        return None
    head = parts[0]
    body = [item_from(part) for part in split_at(parts[1], ";")]
    # Tables for which the line may be a mapping; if a table occurs twice, both items must fit.
    tables = {table: ("", len(terms), []) for table, terms in body if 1 <= len(terms) <= MOST_COLUMNS}
    candidate = (tuple(body), tuple(head[:2]) + terms_from(head[2:]))
    return candidate if is_mapping(tables, candidate) else None


def query_from(words):
    """What a query line stands for, which may have too many answer terms and patterns for a query."""
    parts = split_at(words[1:], "|")
    if words[:1] != ["ask"] or len(parts) != 2:
        return None
    answer_terms = terms_from(parts[0])
    patterns = [tuple(part[:2]) + terms_from(part[2:]) for part in split_at(parts[1], ";")]
    if not all([is_term(term) for term in answer_terms]) or not all([is_pattern(pattern) for pattern in patterns]):
        return None
    return (answer_terms, tuple(patterns))


def table_from(words):
    """The name, the source and the number of columns in a table line."""
    if len(words) != 4 or words[0] != "table" or words[3] not in COUNTS:
        return None
    name, source = words[1:3]
    return (name, source, int(words[3])) if is_word(name) and is_word(source) else None


def lines_of(text):
    if not isinstance(text, str):
        raise ParseError(0)
    return [] if text == "" else [line.split(" ") for line in text.split("\n")]


def items_from(text, item_of_line):
    found = []
    for number, words in enumerate(lines_of(text)):
        item = item_of_line(words)
        if item is None:
            raise ParseError(number)
        found.append(item)
    return found


def parse_ontology(text):
    axioms = items_from(text, axiom_from)
    try:
        check_ontology(axioms)
    except InvalidOntology:
        raise ParseError(None) from None
    return axioms


def parse_facts(text):
    facts = items_from(text, fact_from)
    if first_wrong_fact(facts) is not None:
        raise ParseError(None)
    return facts


def parse_mappings(text):
    mappings = items_from(text, mapping_from)
    if len(mappings) > MOST_MAPPINGS:
        raise ParseError(None)
    return mappings


def parse_query(text):
    lines = lines_of(text)
    query = query_from(lines[0]) if lines else None
    if query is None:
        raise ParseError(0)
    if len(lines) > 1:
        raise ParseError(1)
    if not is_query(query):
        raise ParseError(None)
    return query


def can_have_row(table, row):
    """True if a row may follow the rows of a table."""
    source, column_count, rows = table
    return is_row(row, column_count) and row not in rows and len(rows) < MOST_ROWS


def parse_tables(text):
    tables = {}
    latest = None
    for number, words in enumerate(lines_of(text)):
        described = table_from(words)
        row = tuple(words[1:])
        if described is not None and described[0] not in tables:
            latest, source, column_count = described
            tables[latest] = (source, column_count, [])
        elif words[0] == "row" and latest is not None and can_have_row(tables[latest], row):
            tables[latest][2].append(row)
        else:
            raise ParseError(number)
    if len(tables) > MOST_TABLES:
        raise ParseError(None)
    return tables
