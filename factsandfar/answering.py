"""Certain answers, certificates for them, and countermodels for all other tuples."""

from factsandfar.axioms import inverse
from factsandfar.canonical import canonical_model
from factsandfar.derivations import continued, derived_memberships, derived_roles, is_derivation
from factsandfar.facts import is_named, member_of
from factsandfar.matching import answers_in_model, check_answer, has_answer, match_of_answer
from factsandfar.models import is_model
from factsandfar.queries import is_answer_tuple, is_dict_from, items_of, substituted, variables_of
from factsandfar.shapes import is_index, is_integer
from factsandfar.subsumption import find_chain


def certain_answers(ontology, facts, query):
    # The canonical model can be mapped into every model, with its named individuals onto themselves.
    return sorted(answers_in_model(canonical_model(ontology, facts), query))


class Deriver:
    """Derives what holds in the canonical model, step by step."""

    def __init__(self, ontology, facts, node_kinds):
        self.axioms = list(ontology)
        self.memberships = derived_memberships(ontology, facts)
        self.roles = derived_roles(ontology, facts)
        # The first direction of a node kind is the one that its nodes are needed for.
        self.goals = [directions[0] for directions, names, indexes in node_kinds]
        self.steps = []
        self.given = {}
        self.edges = {}

    def follow(self, at, chain):
        """Adds the steps of a chain from step `at` on, and returns the index of the last one."""
        self.steps, at = continued(self.axioms, self.steps, at, chain)
        return at

    def derive(self, origin):
        """Derives what follows from a given fact by a chain."""
        fact, chain = origin
        if fact not in self.given:
            self.given[fact] = len(self.steps)
            self.steps = self.steps + [(fact, ("given",))]
        return self.follow(self.given[fact], chain)

    def edge_to(self, node):
        """The index of the step that says that an unnamed node is a neighbour of its parent."""
        if node not in self.edges:
            self.edges[node] = self.membership(node[:-1], self.goals[node[-1]])
        return self.edges[node]

    def membership(self, node, concept):
        """The index of a new step that says that a node belongs to a concept."""
        if len(node) == 1:
            return self.derive(self.memberships[(node[0], concept)])
        own = inverse(self.goals[node[-1]])
        return self.follow(self.edge_to(node), find_chain(self.axioms, own, concept))

    def edge(self, role, one, other):
        """The index of a new step that says that a role leads from one node to the other."""
        if len(one) == len(other):
            return self.derive(self.roles[("role", role, one[0], other[0])])
        node, direction = (other, ("out", role)) if len(one) < len(other) else (one, ("in", role))
        chain = find_chain(self.axioms, self.goals[node[-1]], direction, roles_only=True)
        return self.follow(self.edge_to(node), chain)

    def derive_item(self, label, nodes):
        if label[0] == "concept":
            return self.membership(nodes[0], label)
        return self.edge(label[1], nodes[0], nodes[1])

    def individual(self, node):
        """What stands for a node in the steps."""
        if len(node) == 1:
            return node[0]
        return member_of(self.steps[self.edge_to(node)][0], inverse(self.goals[node[-1]]))


def find_certificate(ontology, facts, query, answer):
    check_answer(query, answer)
    model = canonical_model(ontology, facts)
    chosen = match_of_answer(model, query, answer)
    if chosen is None:
        return None
    deriver = Deriver(ontology, facts, model[2])
    at = []
    for label, terms in items_of(query[1]):
        at.append(deriver.derive_item(label, [chosen.get(term, (term,)) for term in terms]))
    assignment = {variable: deriver.individual(chosen[variable]) for variable in chosen}
    return (deriver.steps, assignment, tuple(at))


def is_assignment(query, candidate):
    """True for a dict from exactly the variables of a query to individuals, named or not."""
    if not is_dict_from(candidate, variables_of(items_of(query[1]))):
        return False
    return all([is_named(individual) or is_integer(individual) for individual in candidate.values()])


def is_certificate(ontology, facts, query, answer, candidate):
    if not is_answer_tuple(query, answer) or not isinstance(candidate, tuple) or len(candidate) != 3:
        return False
    derivation, assignment, at = candidate
    if not is_derivation(ontology, facts, derivation) or not is_assignment(query, assignment):
        return False
    if not isinstance(at, tuple) or len(at) != len(query[1]):
        return False
    if not all([is_index(index, len(derivation)) for index in at]):
        return False
    answer_terms, patterns = query
    stated = [label + substituted(assignment, terms) for label, terms in items_of(patterns)]
    return stated == [derivation[index][0] for index in at] and substituted(assignment, answer_terms) == answer


def find_countermodel(ontology, facts, query, answer):
    check_answer(query, answer)
    model = canonical_model(ontology, facts)
    return None if has_answer(model, query, answer) else model


def is_countermodel(ontology, facts, query, answer, candidate):
    return (is_answer_tuple(query, answer) and is_model(ontology, facts, candidate)
            and not has_answer(candidate, query, answer))
