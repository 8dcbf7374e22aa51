"""Answers of queries in the models that model tables describe, unnamed nodes included."""

from factsandfar.axioms import inverse
from factsandfar.errors import InvalidAnswer
from factsandfar.models import stated_pairs
from factsandfar.queries import (
    RowSource, distinct, is_answer_tuple, items_of, joined, matched, substituted, variables_in, variables_of)

# A node is a tuple: an individual and the indexes of the node kinds on the way from it down to the node. Children of
# one node with the same index are alike, so that one of them is enough.


def node_terms(terms):
    """Terms with nodes in place of named individuals."""
    return tuple([term if isinstance(term, str) else (term,) for term in terms])


def node_items(patterns):
    return [(label, node_terms(terms)) for label, terms in items_of(patterns)]


class ModelSource:
    """What holds in the model of a model table; of the terms that are looked up, one is a node."""

    def __init__(self, model):
        facts, children, node_kinds = model
        self.stated = RowSource(node_items(facts))
        self.named_nodes = [(individual,) for individual in stated_pairs(model)]
        self.first_indexes = {individual: sorted(set(children[individual])) for individual in children}
        self.node_kinds = [(directions, names, sorted(set(indexes))) for directions, names, indexes in node_kinds]

    def child_nodes(self, node):
        if len(node) == 1:
            return [node + (index,) for index in self.first_indexes.get(node[0], [])]
        return [node + (index,) for index in self.node_kinds[node[-1]][2]]

    def tree_neighbours(self, node, direction):
        """The children of a node, and its parent, to which a direction leads."""
        found = [child for child in self.child_nodes(node) if direction in self.node_kinds[child[-1]][0]]
        if len(node) > 1 and inverse(direction) in self.node_kinds[node[-1]][0]:
            found.append(node[:-1])
        return found

    def matches(self, label, terms):
        stated = self.stated.matches(label, terms)
        position = [isinstance(term, str) for term in terms].index(False)
        node = terms[position]
        if label[0] == "concept":
            unstated = len(node) > 1 and label[1] in self.node_kinds[node[-1]][1]
            return stated + [(node,)] if unstated else stated
        if position == 0:
            return stated + [(node, other) for other in self.tree_neighbours(node, ("out", label[1]))]
        return stated + [(other, node) for other in self.tree_neighbours(node, ("in", label[1]))]

    def sample_nodes(self):
        """All named nodes, and one node of each node kind that is reached, those with a short way first."""
        nodes = list(self.named_nodes)
        seen = set()
        at = 0
        while at < len(nodes):
            below = self.child_nodes(nodes[at])
            for child in below:
                if child[-1] not in seen:
                    seen.add(child[-1])
                    nodes.append(child)
            at += 1
        return nodes


def connected_parts(items):
    """The items in groups that have no variable in common."""
    parts = []
    for item in items:
        variables = variables_of([item])
        group = [item]
        apart = []
        for part in parts:
            if any([variable in variables for variable in variables_of(part)]):
                group = part + group
            else:
                apart.append(part)
        parts = apart + [group]
    return parts


def starts_of(source, part):
    """States with which a connected part can be joined, such that it has a match if one of them leads to one."""
    if not all([isinstance(term, str) for label, terms in part for term in terms]):
        return [{}]
    # Where the part has a match, some variable is a named node, or some variable is above all others. In the second
    # case nothing above that node counts, and any node of its kind will do.
    nodes = source.sample_nodes()
    return [{variable: node} for variable in variables_of(part) for node in nodes]


def part_states(source, part, kept):
    """Some states of the kept variables in which a connected part has a match; none if it has no match."""
    for start in starts_of(source, part):
        states = joined(source, part, kept, [start])
        if states:
            return states
    return []


def has_match(source, items):
    return all([part_states(source, part, []) != [] for part in connected_parts(items)])


def find_match(source, items):
    """A node for each variable such that all items hold, or None."""
    if not has_match(source, items):
        return None
    chosen = {}
    for variable in variables_of(items):
        known = [(label, substituted(chosen, terms)) for label, terms in items]
        for part in connected_parts(known):
            if variable in variables_of(part):
                chosen[variable] = part_states(source, part, [variable])[0][variable]
    return chosen


def answer_state(query, answer):
    """What the variables among the answer terms become where they become the answer, or None if they cannot."""
    return matched(node_terms(query[0]), node_terms(answer))


def answered_items(query, state):
    return [(label, substituted(state, terms)) for label, terms in node_items(query[1])]


def match_of_answer(model, query, answer):
    """A node for each variable such that a query has an answer, or None."""
    state = answer_state(query, answer)
    if state is None:
        return None
    chosen = find_match(ModelSource(model), answered_items(query, state))
    return None if chosen is None else {**chosen, **state}


def check_answer(query, candidate):
    if not is_answer_tuple(query, candidate):
        raise InvalidAnswer()


def has_answer(model, query, answer):
    state = answer_state(query, answer)
    return state is not None and has_match(ModelSource(model), answered_items(query, state))


def holds_in_model(model, query, answer):
    check_answer(query, answer)
    return has_answer(model, query, answer)


def named_states(source, part, variables):
    """The states of answer variables of a connected part, at least one, in which it has a match."""
    states = joined(source, part, variables, [{variables[0]: node} for node in source.named_nodes])
    return [state for state in states if all([len(node) == 1 for node in state.values()])]


def answers_in_model(model, query):
    """The answers of a query in the model of a model table, without duplicates."""
    answer_terms, patterns = query
    source = ModelSource(model)
    states = [{}]
    for part in connected_parts(node_items(patterns)):
        variables = [variable for variable in variables_in(answer_terms) if variable in variables_of(part)]
        if variables:
            found = named_states(source, part, variables)
            states = [{**state, **more} for state in states for more in found]
        elif not part_states(source, part, []):
            return []
    answers = [substituted(state, node_terms(answer_terms)) for state in states]
    return distinct([tuple([node[0] for node in answer]) for answer in answers])
