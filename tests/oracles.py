"""What the document says, computed slowly and without the package; and values for tests."""

import itertools


class AlwaysEqual:
    """Equal to everything: a checker that compares before it looks at kinds accepts it."""

    def __eq__(self, other):
        return True

    def __hash__(self):
        return hash("a")


class NeverUsable:
    """Any use of it fails."""

    def fail(self, *rest):
        raise AssertionError("a value of an unknown kind was used")

    __eq__ = __hash__ = __bool__ = __len__ = __iter__ = __getitem__ = __lt__ = __index__ = fail


STRANGE = [
    None, True, False, 0, 1, 2, -1, 99, 0.0, 1.0, "", "a", "out", "r", b"out", [], (), {}, set(), frozenset(),
    [[]], [[], [[]]], [()], ((),), [0], (0,), [None], {"a": 1}, {0: []}, range(3), len, object(), AlwaysEqual(),
    NeverUsable(), ("concept",), ["out", "r"], ["p", "1"], (NeverUsable(), "a"), (AlwaysEqual(), AlwaysEqual()),
    (AlwaysEqual(),) * 3, (AlwaysEqual(),) * 4, [AlwaysEqual()],
]
PARTS = STRANGE + [("concept", "a"), ("out", "r"), ("in", "r"), ("out", "s"), ("given",), ("p", "1"), ("p", "2"), [1], [0, 0], 3]


def with_parts_changed(value):
    """Every copy of a nested value in which one part, or all of it, is replaced by something else."""
    for changed in changed_copies(value):
        if repr(changed) != repr(value):
            yield changed


def changed_copies(value):
    yield from PARTS
    if isinstance(value, (list, tuple)):
        for position, item in enumerate(value):
            for changed in changed_copies(item):
                items = list(value)
                items[position] = changed
                yield type(value)(items)
            yield value[:position] + value[position + 1:]
            yield value[:position + 1] + value[position:]
        yield value + type(value)([None])
        yield list(value) if isinstance(value, tuple) else tuple(value)
    if isinstance(value, dict):
        for key in value:
            for changed in changed_copies(value[key]):
                yield {**value, key: changed}
            for changed in (None, True, 0, "a", (), ("p",), ("p", "A"), ("p", "1", "1"), (1, "1"), ("p", 1)):
                yield {**{other: value[other] for other in value if other != key}, changed: value[key]}


class Graph:
    """Nodes, named sets of nodes and named sets of pairs of nodes; depth 0 for named individuals."""

    def __init__(self, facts=()):
        self.depths = {}
        self.names = {}
        self.roles = {}
        for fact in facts:
            self.include(fact)

    def include(self, fact):
        for node in fact[2:]:
            self.depths.setdefault(node, 0)
        kept = self.names if fact[0] == "concept" else self.roles
        row = fact[2] if fact[0] == "concept" else fact[2:]
        before = len(kept.setdefault(fact[1], set()))
        kept[fact[1]].add(row)
        return len(kept[fact[1]]) > before

    def pairs(self, role):
        return self.roles.get(role, set())

    def members(self, concept):
        if concept[0] == "concept":
            return set(self.names.get(concept[1], set()))
        return {pair[0 if concept[0] == "out" else 1] for pair in self.pairs(concept[1])}

    def neighbours(self, node, direction):
        if direction[0] == "out":
            return {other for start, other in self.pairs(direction[1]) if start == node}
        return {start for start, other in self.pairs(direction[1]) if other == node}

    def holds(self, axiom, below):
        """Point 4, word by word, at the nodes whose depth is smaller than `below`."""
        inner = {node for node in self.depths if self.depths[node] < below}
        tag, first, second = axiom[0], axiom[1], axiom[-1]
        if tag == "subclass":
            return (self.members(first) & inner) <= self.members(second)
        if tag == "disjoint":
            return not self.members(first) & self.members(second)
        if tag == "functional":
            return all(len(self.neighbours(node, first)) < 2 for node in inner)
        back = {(other, node) for node, other in self.pairs(first)}
        if tag == "subrole":
            return self.pairs(first) <= self.pairs(second)
        if tag == "subrole_inverse":
            return back <= self.pairs(second)
        if tag == "disjoint_roles":
            return not self.pairs(first) & self.pairs(second)
        assert tag == "disjoint_inverse"
        return not back & self.pairs(second)


def chased(ontology, facts, depth):
    """All that follows from facts, with unnamed individuals up to a depth: new ones, whatever exists already."""
    graph = Graph(facts)
    created = set()
    changed = True
    while changed:
        changed = False
        for number, axiom in enumerate(ontology):
            for fact in applied(graph, axiom, number, created, depth):
                changed = graph.include(fact) or changed
    return graph


def applied(graph, axiom, number, created, depth):
    tag, first, second = axiom[0], axiom[1], axiom[-1]
    if tag == "subrole":
        return [("role", second, *pair) for pair in graph.pairs(first)]
    if tag == "subrole_inverse":
        return [("role", second, other, node) for node, other in graph.pairs(first)]
    if tag != "subclass":
        return []
    if second[0] == "concept":
        return [("concept", second[1], node) for node in graph.members(first)]
    facts = []
    for node in graph.members(first):
        if graph.depths[node] < depth and (node, second) not in created:
            created.add((node, second))
            new = ("unnamed", len(created))
            graph.depths[new] = graph.depths[node] + 1
            facts.append(("role", second[1], *((node, new) if second[0] == "out" else (new, node))))
    return facts


def is_consistent(ontology, facts, depth=5):
    """No axiom is violated by what follows; only named individuals count as certainly distinct."""
    graph = chased(ontology, facts, depth)
    for axiom in ontology:
        if axiom[0] == "functional":
            for node in graph.depths:
                named = [other for other in graph.neighbours(node, axiom[1]) if graph.depths[other] == 0]
                if len(named) > 1:
                    return False
        elif axiom[0].startswith("disjoint") and not graph.holds(axiom, depth):
            return False
    return True


def example_fact(concept, one, other):
    """A fact that makes one node a member of a concept."""
    tag, name = concept
    return {"concept": ("concept", name, one), "out": ("role", name, one, other), "in": ("role", name, other, one)}[tag]


def turned(direction):
    return ("in" if direction[0] == "out" else "out", direction[1])


def model_of(ontology, facts, names, roles):
    """A table that describes a model if there is one: each direction that is missing somewhere gets a child."""
    concepts, directions = all_concepts(names, roles), all_concepts([], roles)
    role_axioms = [axiom for axiom in ontology if axiom[0] != "subclass"]
    links, above = {}, {}
    for concept in concepts:
        graph = chased(ontology, [example_fact(concept, 0, 1)], 1)
        above[concept] = [other for other in concepts if 0 in graph.members(other)]
        if concept in directions:
            graph = chased(role_axioms, [example_fact(concept, 0, 1)], 1)
            links[concept] = [other for other in directions if 1 in graph.neighbours(0, other)]
    kinds = []
    for direction in directions:
        inside = above[turned(direction)]
        known = [turned(link) for link in links[direction]]
        children = [directions.index(concept) for concept in inside if concept in directions and concept not in known]
        kinds.append((tuple(links[direction]), tuple(name for tag, name in inside if tag == "concept"), tuple(children)))
    graph = chased(ontology, facts, 1)
    named = Graph(facts_of(graph))
    children = {node: [number for number, direction in enumerate(directions)
                       if node in graph.members(direction) and node not in named.members(direction)]
                for node in graph.depths if graph.depths[node] == 0}
    return facts_of(graph), children, kinds


def facts_of(graph):
    """The facts of a graph about named individuals, sorted."""
    found = [("concept", name, node) for name in graph.names for node in graph.names[name]]
    found += [("role", role, *pair) for role in graph.roles for pair in graph.roles[role]]
    return sorted(fact for fact in found if all(graph.depths[node] == 0 for node in fact[2:]))


def unrolled(model, depth):
    """The model of a model table, as a graph, down to a depth."""
    facts, children, kinds = model
    graph = Graph(facts)
    waiting = [(individual, index) for individual in children for index in children[individual]]
    for individual in children:
        graph.depths.setdefault(individual, 0)
    counter = itertools.count()
    while waiting:
        parent, index = waiting.pop()
        child = ("unnamed", next(counter))
        graph.depths[child] = graph.depths[parent] + 1
        directions, names, indexes = kinds[index]
        for name in names:
            graph.include(("concept", name, child))
        for tag, role in directions:
            graph.include(("role", role, *((parent, child) if tag == "out" else (child, parent))))
        if graph.depths[child] < depth:
            waiting += [(child, inner) for inner in indexes]
    return graph


def all_concepts(names, roles):
    return [("concept", name) for name in names] + [(tag, role) for role in roles for tag in ("out", "in")]


def all_axioms(names, roles, tags):
    concepts = all_concepts(names, roles)
    found = [(tag, one, other) for tag in ("subclass", "disjoint") for one in concepts for other in concepts]
    found += [(tag, one, other) for one in roles for other in roles
              for tag in ("subrole", "subrole_inverse", "disjoint_roles", "disjoint_inverse")]
    found += [("functional", (tag, role)) for tag in ("out", "in") for role in roles]
    return [axiom for axiom in found if axiom[0] in tags]


INCLUSIONS = ("subclass", "subrole", "subrole_inverse")
TAGS = INCLUSIONS + ("disjoint", "disjoint_roles", "disjoint_inverse", "functional")


def random_ontology(rng, names, roles, *, positive, negative):
    """Distinct axioms, so many inclusions and so many others, that make an ontology."""
    axioms = rng.sample(all_axioms(names, roles, INCLUSIONS), positive)
    forbidden = [axiom[2] for axiom in axioms if axiom[0] in ("subrole", "subrole_inverse")]
    others = [axiom for axiom in all_axioms(names, roles, [tag for tag in TAGS if tag not in INCLUSIONS])
              if axiom[0] != "functional" or axiom[1][1] not in forbidden]
    axioms += rng.sample(others, min(negative, len(others)))
    rng.shuffle(axioms)
    return axioms


def random_facts(rng, names, roles, individuals, count):
    """Distinct facts, at most so many, in any order."""
    facts = [("concept", name, individual) for name in names for individual in individuals]
    facts += [("role", role, one, other) for role in roles for one in individuals for other in individuals]
    return rng.sample(facts, min(count, len(facts)))
