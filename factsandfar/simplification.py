"""Table queries simplified by constraints, and mappings that add nothing to others."""

from factsandfar.containment import find_map
from factsandfar.errors import InvalidStep
from factsandfar.queries import equated, resolved, resolved_terms
from factsandfar.shapes import is_index, tag_of

STEP_FORMS = (("key", 4), ("foreign_key", 4))

# The result of a step stands in a list of its own, because None is a result, too; the list is empty where the step is
# not possible.


def without_item(body, position):
    return body[:position] + body[position + 1:]


def term_at(item, table, column):
    """The term of a body item in a column of a table, or None if the item is not from this table."""
    own_table, terms = item
    return terms[column] if own_table == table and is_index(column, len(terms)) else None


def have_same_term(one, other):
    return one is not None and one == other


def key_results(constraint, query, item, other):
    answer_terms, body = query
    table, column = constraint[1:]
    if item >= other or not have_same_term(term_at(body[item], table, column), term_at(body[other], table, column)):
        return []
    bindings = {}
    for kept, dropped in zip(body[item][1], body[other][1]):
        # The dropped item's variables are the ones that are replaced, where there is a choice.
        bindings = equated(bindings, dropped, kept)
        if bindings is None:
            return [None]
    return [(tuple([(word, resolved(bindings, term)) for word, term in answer_terms]),
             tuple([(name, resolved_terms(bindings, terms)) for name, terms in without_item(body, other)]))]


def is_lone(query, term):
    """True for a variable that occurs exactly once in a table query, its answer terms included."""
    answer_terms, body = query
    places = [known for word, known in answer_terms] + [known for table, terms in body for known in terms]
    return isinstance(term, str) and places.count(term) == 1


def foreign_key_results(constraint, query, item, other):
    answer_terms, body = query
    table, column, other_table, other_column = constraint[1:]
    terms = body[other][1]
    shared = term_at(body[item], table, column)
    if item == other or not have_same_term(shared, term_at(body[other], other_table, other_column)):
        return []
    if not all([is_lone(query, terms[position]) for position in range(len(terms)) if position != other_column]):
        return []
    return [(answer_terms, without_item(body, other))]


def step_results(constraints, query, step):
    """The results of a value as a step on a table query: one, or none if it is not a possible step here."""
    tag = tag_of(step, STEP_FORMS)
    if tag is None or not is_index(step[1], len(constraints)):
        return []
    constraint = constraints[step[1]]
    item, other = step[2:]
    if constraint[0] != tag or not is_index(item, len(query[1])) or not is_index(other, len(query[1])):
        return []
    if tag == "key":
        return key_results(constraint, query, item, other)
    return foreign_key_results(constraint, query, item, other)


def apply_step(constraints, query, step):
    results = step_results(constraints, query, step)
    if not results:
        raise InvalidStep()
    return results[0]


def first_step(constraints, query):
    """A possible step on a table query, or None."""
    count = len(query[1])
    for index, constraint in enumerate(constraints):
        for item in range(count):
            for other in range(count):
                step = (constraint[0], index, item, other)
                if step_results(constraints, query, step):
                    return step
    return None


def simplification_steps(constraints, query):
    steps = []
    step = first_step(constraints, query)
    while step is not None:
        steps.append(step)
        query = apply_step(constraints, query, step)
        step = None if query is None else first_step(constraints, query)
    return steps


def head_structure(mapping):
    """The body of a mapping, and the variables of its head in the place of answer terms."""
    body, head = mapping
    return [variable for word, variable in head[2:]], body


def covers(one, other):
    """True if one mapping produces, on all tables, what the other one produces."""
    if one[1][:2] != other[1][:2]:
        return False
    if [word for word, variable in one[1][2:]] != [word for word, variable in other[1][2:]]:
        return False
    return find_map(head_structure(one), head_structure(other)) is not None


def is_redundant(mappings, index, other):
    own, rival = mappings[index], mappings[other]
    # Of two mappings that cover each other, this keeps the first; it also keeps a mapping from being its own rival.
    return covers(rival, own) and (other < index or not covers(own, rival))


def redundant_mappings(mappings):
    pairs = []
    for index in range(len(mappings)):
        others = [other for other in range(len(mappings)) if is_redundant(mappings, index, other)]
        if others:
            pairs.append((index, others[0]))
    return pairs
