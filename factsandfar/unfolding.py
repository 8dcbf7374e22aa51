"""Queries over facts, unfolded by mappings into queries over tables."""

from factsandfar.errors import LimitExceeded
from factsandfar.mappings import row_terms
from factsandfar.queries import (
    IsomorphismClasses, RowSource, distinct, equated, joined, resolved, resolved_terms, substituted, variables_in,
    variables_of)
from factsandfar.shapes import numbered_word

MOST_CHOICES = 400

# A choice of mappings for the first patterns of a query is a tuple (body, templates, bindings): the bodies of the
# mappings with their variables renamed apart, the template of each variable of the query so far, and which of the
# renamed variables have been made equal to which terms.


def renamed_apart(mapping, used):
    """The body and the templates of a mapping, with variables that come after so many that are used."""
    body, head = mapping
    renaming = {variable: numbered_word(used + number) for number, variable in enumerate(variables_of(body))}
    return ([(table, substituted(renaming, terms)) for table, terms in body],
            [(word, renaming[variable]) for word, variable in head[2:]])


def template_of(templates, term):
    """What stands for a term of a query so far, or None."""
    if isinstance(term, str):
        return templates.get(term)
    return (term[0], ("value", term[1]))


def extended_choice(choice, pattern, mapping):
    """The choice with a mapping for one more pattern, or None if templates cannot be made equal."""
    body, templates, bindings = choice
    own_body, own_templates = renamed_apart(mapping, len(variables_of(body)))
    templates = dict(templates)
    for term, template in zip(pattern[2:], own_templates):
        known = template_of(templates, term)
        if known is None:
            templates[term] = template
        else:
            bindings = equated(bindings, known[1], template[1]) if known[0] == template[0] else None
        if bindings is None:
            return None
    return (body + own_body, templates, bindings)


def choices_for(mappings, query):
    """All choices that give a table query, in order."""
    choices = [([], {}, {})]
    for pattern in query[1]:
        fitting = [mapping for mapping in mappings if mapping[1][:2] == pattern[:2]]
        extended = [extended_choice(choice, pattern, mapping) for choice in choices for mapping in fitting]
        choices = [choice for choice in extended if choice is not None]
    return choices


def table_query(query, choice):
    body, templates, bindings = choice
    answers = [template_of(templates, term) for term in query[0]]
    return (tuple([(word, resolved(bindings, term)) for word, term in answers]),
            tuple([(table, resolved_terms(bindings, terms)) for table, terms in body]))


def unfold(mappings, queries):
    classes = IsomorphismClasses()
    kept = []
    count = 0
    for query in queries:
        choices = choices_for(mappings, query)
        count += len(choices)
        if count > MOST_CHOICES:
            raise LimitExceeded(MOST_CHOICES)
        for unfolded in [table_query(query, choice) for choice in choices]:
            if classes.include((unfolded[0], distinct(unfolded[1]))):
                kept.append(unfolded)
    return kept


def table_answers(source, query):
    answer_terms, body = query
    variables = variables_in([term for word, term in answer_terms])
    return [tuple([(word, state.get(term, term)[1]) for word, term in answer_terms])
            for state in joined(source, body, variables, [{}])]


def evaluate_on_tables(tables, queries):
    source = RowSource([(table, row_terms(row)) for table in tables for row in tables[table][2]])
    return sorted(distinct([answer for query in queries for answer in table_answers(source, query)]))
