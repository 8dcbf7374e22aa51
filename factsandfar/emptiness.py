"""Concepts that no model can give a member, and certificates for this."""

from factsandfar.axioms import ROLE_DISJOINTNESSES, check_concept, inverse, is_direction, second_direction
from factsandfar.shapes import is_index, tag_of
from factsandfar.subsumption import chains_from, is_chain

MOST_SUCCESSORS = 16
CERTIFICATE_FORMS = (("disjoint", 4), ("roles", 6), ("successor", 4))


def disjoint_directions(axiom):
    """The pairs of directions that no two nodes may have to each other because of an axiom."""
    if axiom[0] not in ROLE_DISJOINTNESSES:
        return []
    starts = [("out", axiom[1]), ("in", axiom[1])]
    return [(start, second_direction(axiom, start)) for start in starts]


def roles_certificate(ontology, direction, chain):
    ends = chains_from(ontology, direction, roles_only=True)
    for index, axiom in enumerate(ontology):
        for one, other in disjoint_directions(axiom):
            if one in ends and other in ends:
                return ("roles", index, list(chain), direction, list(ends[one]), list(ends[other]))
    return None


def direct_certificate(ontology, concept):
    """A certificate for a concept that is not a successor certificate, or None."""
    chains = chains_from(ontology, concept)
    for index, axiom in enumerate(ontology):
        if axiom[0] == "disjoint" and axiom[1] in chains and axiom[2] in chains:
            return ("disjoint", index, list(chains[axiom[1]]), list(chains[axiom[2]]))
    for direction, chain in chains.items():
        if is_direction(direction):
            found = roles_certificate(ontology, direction, chain)
            if found is not None:
                return found
    return None


def successors_of(ontology, concept):
    """The concept of each successor that a member must have, with the chain and the direction that lead there."""
    chains = chains_from(ontology, concept)
    return [(inverse(reached), chains[reached], reached) for reached in chains if is_direction(reached)]


def wrapped(path, certificate):
    for chain, direction in reversed(path):
        certificate = ("successor", list(chain), direction, certificate)
    return certificate


def find_emptiness_certificate(ontology, concept):
    check_concept(concept)
    paths = {concept: []}
    latest = [concept]
    # Concepts fewer successors away come first, so that a certificate is not deeper than necessary.
    for depth in range(MOST_SUCCESSORS + 1):
        found = []
        for start in latest:
            certificate = direct_certificate(ontology, start)
            if certificate is not None:
                return wrapped(paths[start], certificate)
            for reached, chain, direction in successors_of(ontology, start):
                if reached not in paths:
                    paths[reached] = paths[start] + [(chain, direction)]
                    found.append(reached)
        latest = found
    return None


def is_direct_certificate(ontology, concept, candidate):
    tag = tag_of(candidate, CERTIFICATE_FORMS)
    if tag is None or not is_index(candidate[1], len(ontology)):
        return False
    axiom = ontology[candidate[1]]
    if tag == "disjoint":
        one, other = candidate[2:]
        return (axiom[0] == "disjoint" and is_chain(ontology, concept, axiom[1], one)
                and is_chain(ontology, concept, axiom[2], other))
    return is_roles_certificate(ontology, concept, axiom, candidate)


def is_roles_certificate(ontology, concept, axiom, candidate):
    chain, direction, one, other = candidate[2:]
    if not is_direction(direction) or not is_chain(ontology, concept, direction, chain):
        return False
    return any([is_chain(ontology, direction, first, one, roles_only=True)
                and is_chain(ontology, direction, second, other, roles_only=True)
                for first, second in disjoint_directions(axiom)])


def is_emptiness_certificate(ontology, concept, candidate):
    depth = 0
    while tag_of(candidate, CERTIFICATE_FORMS) == "successor":
        chain, direction, inner = candidate[1:]
        depth += 1
        if depth > MOST_SUCCESSORS or not is_direction(direction):
            return False
        if not is_chain(ontology, concept, direction, chain):
            return False
        concept, candidate = inverse(direction), inner
    return is_direct_certificate(ontology, concept, candidate)
