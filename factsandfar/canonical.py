"""A model table with no more than what follows, for all facts that have a model."""

from factsandfar.axioms import inverse, is_direction
from factsandfar.conflicts import find_conflict
from factsandfar.derivations import derived_facts, derived_memberships
from factsandfar.errors import Inconsistent
from factsandfar.facts import memberships
from factsandfar.subsumption import chains_from, superconcepts


def links_of(ontology, direction):
    """The directions that lead to every neighbour to which a direction leads, that direction first."""
    return list(chains_from(ontology, direction, roles_only=True))


def links_by_goal(ontology):
    """The directions in which an axiom may ask for a neighbour, those with more links first, and their links."""
    # Other directions lead nowhere that a given edge or one of these does not lead to, so each axiom needs at most
    # one node kind.
    goals = {}
    for axiom in ontology:
        if axiom[0] == "subclass" and is_direction(axiom[2]):
            goals[axiom[2]] = links_of(ontology, axiom[2])
    ranked = sorted([(-len(goals[goal]), goal) for goal in goals])
    return {goal: goals[goal] for rank, goal in ranked}


def missing_goals(goals, concepts, present):
    """The directions in which a node needs a child: what it belongs to asks for them and no neighbour serves them."""
    served = {direction: True for direction in present}
    missing = []
    for goal, links in goals.items():
        if goal in concepts and goal not in served:
            missing.append(goal)
            served.update({link: True for link in links})
    return missing


def goals_of_individuals(ontology, facts, stated, goals):
    """For each named individual that needs children, their directions."""
    concepts = {}
    for individual, concept in derived_memberships(ontology, facts):
        concepts.setdefault(individual, {})[concept] = True
    present = {}
    for fact in stated:
        for individual, concept in memberships(fact):
            present.setdefault(individual, []).append(concept)
    missing = {individual: missing_goals(goals, concepts[individual], present.get(individual, []))
               for individual in concepts}
    return {individual: missing[individual] for individual in missing if missing[individual]}


def node_parts(ontology, goals, goal):
    """The links, the concept names and the goals of the children of a child in the direction of a goal."""
    links = goals[goal]
    concepts = superconcepts(ontology, inverse(goal))
    names = [concept[1] for concept in concepts if concept[0] == "concept"]
    return links, names, missing_goals(goals, concepts, [inverse(link) for link in links])


def reached_parts(ontology, goals, first):
    """The parts of each node kind that some individual needs, by its goal, in the order of their indexes."""
    parts = {}
    waiting = list(first)
    while waiting:
        goal = waiting.pop(0)
        if goal not in parts:
            parts[goal] = node_parts(ontology, goals, goal)
            waiting.extend(parts[goal][2])
    return parts


def canonical_model(ontology, facts):
    conflict = find_conflict(ontology, facts)
    if conflict is not None:
        raise Inconsistent(conflict)
    goals = links_by_goal(ontology)
    stated = derived_facts(ontology, facts)
    wanted = goals_of_individuals(ontology, facts, stated, goals)
    parts = reached_parts(ontology, goals, [goal for missing in wanted.values() for goal in missing])
    numbers = {goal: number for number, goal in enumerate(parts)}
    children = {individual: [numbers[goal] for goal in wanted[individual]] for individual in wanted}
    node_kinds = [(tuple(links), tuple(names), tuple([numbers[goal] for goal in missing]))
                  for links, names, missing in parts.values()]
    return (stated, children, node_kinds)
