"""Model tables, and the axioms that hold in the models that they describe."""

from factsandfar.axioms import ROLE_INCLUSIONS, inverse, is_direction, second_direction
from factsandfar.facts import first_wrong_fact, is_named, memberships
from factsandfar.shapes import is_index, is_word

MOST_NODE_KINDS = 20
MOST_CHILDREN = 16


def are_indexes(candidates, count):
    return len(candidates) <= MOST_CHILDREN and all([is_index(candidate, count) for candidate in candidates])


def are_children(candidate, count):
    """True for a dict from named individuals to lists of node kind indexes."""
    if not isinstance(candidate, dict):
        return False
    for individual, indexes in candidate.items():
        if not is_named(individual) or not isinstance(indexes, list) or not are_indexes(indexes, count):
            return False
    return True


def are_distinct(items):
    return len(set(items)) == len(items)


def is_node_kind(candidate, count):
    if not isinstance(candidate, tuple) or len(candidate) != 3:
        return False
    if not all([isinstance(part, tuple) for part in candidate]):
        return False
    directions, names, indexes = candidate
    if len(directions) == 0 or not all([is_direction(direction) for direction in directions]):
        return False
    if not all([is_word(name) for name in names]):
        return False
    return are_distinct(directions) and are_distinct(names) and are_indexes(indexes, count)


def is_model_table(candidate):
    if not isinstance(candidate, tuple) or len(candidate) != 3:
        return False
    facts, children, node_kinds = candidate
    if not isinstance(facts, list) or first_wrong_fact(facts) is not None:
        return False
    if not isinstance(node_kinds, list) or len(node_kinds) > MOST_NODE_KINDS:
        return False
    count = len(node_kinds)
    return are_children(children, count) and all([is_node_kind(kind, count) for kind in node_kinds])


def reached_kinds(model):
    """The indexes of the node kinds that describe a node."""
    facts, children, node_kinds = model
    latest = [index for indexes in children.values() for index in indexes]
    reached = {}
    while latest:
        index = latest.pop()
        if index not in reached:
            reached[index] = True
            latest.extend(node_kinds[index][2])
    return list(reached)


def child_links(node_kinds, indexes):
    return [list(node_kinds[index][0]) for index in indexes]


# A node is described by a pair (concepts, links): the concepts that its names give it, and for each of its
# neighbours the directions that lead there. No axiom depends on more than this.


def stated_pairs(model):
    """For each named individual, the pairs (concept, neighbour) that facts state; a concept name has no neighbour."""
    facts, children, node_kinds = model
    stated = {individual: [] for individual in children}
    for fact in facts:
        neighbours = [fact[3], fact[2]] if fact[0] == "role" else [None]
        for (individual, concept), neighbour in zip(memberships(fact), neighbours):
            stated.setdefault(individual, []).append((concept, neighbour))
    return stated


def named_node(model, individual, pairs):
    facts, children, node_kinds = model
    links = {}
    for concept, neighbour in pairs:
        if neighbour is not None:
            links.setdefault(neighbour, []).append(concept)
    names = [stated for stated, absent in pairs if absent is None]
    return names, list(links.values()) + child_links(node_kinds, children.get(individual, []))


def unnamed_node(node_kinds, index):
    """What every node of a node kind has in common."""
    directions, names, indexes = node_kinds[index]
    to_parent = [inverse(direction) for direction in directions]
    return [("concept", name) for name in names], [to_parent] + child_links(node_kinds, indexes)


def nodes_of(model):
    stated = stated_pairs(model)
    named = [named_node(model, individual, stated[individual]) for individual in stated]
    return named + [unnamed_node(model[2], index) for index in reached_kinds(model)]


def belongs(node, concept):
    concepts, links = node
    return concept in concepts or any([concept in link for link in links])


def link_obeys(axiom, link):
    """True if the edges from a node to a neighbour obey an axiom about two roles."""
    # The edges in the other direction are tested where the neighbour is the node.
    first = ("out", axiom[1])
    return first not in link or (second_direction(axiom, first) in link) == (axiom[0] in ROLE_INCLUSIONS)


def node_obeys(axiom, node):
    if axiom[0] == "functional":
        return len([link for link in node[1] if axiom[1] in link]) <= 1
    if axiom[0] in ("subclass", "disjoint"):
        return not belongs(node, axiom[1]) or belongs(node, axiom[2]) == (axiom[0] == "subclass")
    return all([link_obeys(axiom, link) for link in node[1]])


def violated_axioms(ontology, model):
    nodes = nodes_of(model)
    return [index for index, axiom in enumerate(ontology)
            if not all([node_obeys(axiom, node) for node in nodes])]


def is_model(ontology, facts, candidate):
    if not is_model_table(candidate):
        return False
    contained = {fact: True for fact in candidate[0]}
    return all([fact in contained for fact in facts]) and violated_axioms(ontology, candidate) == []
