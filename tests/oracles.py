"""What the document says, computed slowly and without the package; and values for tests."""

import itertools


class AlwaysEqual:
    """Equal to everything: a checker that compares before it looks at kinds accepts it."""

    def __eq__(self, other):
        return True

    def __hash__(self):
        return hash("a")


class NeverUsable:
    """Any use of it fails."""

    def fail(self, *rest):
        raise AssertionError("a value of an unknown kind was used")

    __eq__ = __hash__ = __bool__ = __len__ = __iter__ = __getitem__ = __lt__ = __index__ = fail


STRANGE = [
    None, True, False, 0, 1, 2, -1, 99, 0.0, 1.0, "", "a", "out", "r", b"out", [], (), {}, set(), frozenset(),
    [[]], [[], [[]]], [()], ((),), [0], (0,), [None], {"a": 1}, {0: []}, range(3), len, object(), AlwaysEqual(),
    NeverUsable(), ("concept",), ["out", "r"], ["p", "1"], (NeverUsable(), "a"), (AlwaysEqual(), AlwaysEqual()),
    (AlwaysEqual(),) * 3, (AlwaysEqual(),) * 4, [AlwaysEqual()],
]
PARTS = STRANGE + [("concept", "a"), ("out", "r"), ("in", "r"), ("out", "s"), ("given",), ("p", "1"), ("p", "2"), [1], [0, 0], 3]


def with_parts_changed(value):
    """Every copy of a nested value in which one part, or all of it, is replaced by something else."""
    for changed in changed_copies(value):
        if repr(changed) != repr(value):
            yield changed


def changed_copies(value):
    yield from PARTS
    if isinstance(value, (list, tuple)):
        for position, item in enumerate(value):
            for changed in changed_copies(item):
                items = list(value)
                items[position] = changed
                yield type(value)(items)
            yield value[:position] + value[position + 1:]
            yield value[:position + 1] + value[position:]
        yield value + type(value)([None])
        yield list(value) if isinstance(value, tuple) else tuple(value)
    if isinstance(value, dict):
        for key in value:
            for changed in changed_copies(value[key]):
                yield {**value, key: changed}
            for changed in (None, True, 0, "a", (), ("p",), ("p", "A"), ("p", "1", "1"), (1, "1"), ("p", 1)):
                yield {**{other: value[other] for other in value if other != key}, changed: value[key]}


class Graph:
    """Nodes, named sets of nodes and named sets of pairs of nodes; depth 0 for named individuals."""

    def __init__(self, facts=()):
        self.depths = {}
        self.names = {}
        self.roles = {}
        for fact in facts:
            self.include(fact)

    def include(self, fact):
        for node in fact[2:]:
            self.depths.setdefault(node, 0)
        kept = self.names if fact[0] == "concept" else self.roles
        row = fact[2] if fact[0] == "concept" else fact[2:]
        before = len(kept.setdefault(fact[1], set()))
        kept[fact[1]].add(row)
        return len(kept[fact[1]]) > before

    def pairs(self, role):
        return self.roles.get(role, set())

    def members(self, concept):
        if concept[0] == "concept":
            return set(self.names.get(concept[1], set()))
        return {pair[0 if concept[0] == "out" else 1] for pair in self.pairs(concept[1])}

    def neighbours(self, node, direction):
        if direction[0] == "out":
            return {other for start, other in self.pairs(direction[1]) if start == node}
        return {start for start, other in self.pairs(direction[1]) if other == node}

    def holds(self, axiom, below):
        """Point 4, word by word, at the nodes whose depth is smaller than `below`."""
        inner = {node for node in self.depths if self.depths[node] < below}
        tag, first, second = axiom[0], axiom[1], axiom[-1]
        if tag == "subclass":
            return (self.members(first) & inner) <= self.members(second)
        if tag == "disjoint":
            return not self.members(first) & self.members(second)
        if tag == "functional":
            return all(len(self.neighbours(node, first)) < 2 for node in inner)
        back = {(other, node) for node, other in self.pairs(first)}
        if tag == "subrole":
            return self.pairs(first) <= self.pairs(second)
        if tag == "subrole_inverse":
            return back <= self.pairs(second)
        if tag == "disjoint_roles":
            return not self.pairs(first) & self.pairs(second)
        assert tag == "disjoint_inverse"
        return not back & self.pairs(second)


def chased(ontology, facts, depth):
    """All that follows from facts, with unnamed individuals up to a depth: new ones, whatever exists already."""
    graph = Graph(facts)
    created = set()
    changed = True
    while changed:
        changed = False
        for number, axiom in enumerate(ontology):
            for fact in applied(graph, axiom, number, created, depth):
                changed = graph.include(fact) or changed
    return graph


def applied(graph, axiom, number, created, depth):
    tag, first, second = axiom[0], axiom[1], axiom[-1]
    if tag == "subrole":
        return [("role", second, *pair) for pair in graph.pairs(first)]
    if tag == "subrole_inverse":
        return [("role", second, other, node) for node, other in graph.pairs(first)]
    if tag != "subclass":
        return []
    if second[0] == "concept":
        return [("concept", second[1], node) for node in graph.members(first)]
    facts = []
    for node in graph.members(first):
        if graph.depths[node] < depth and (node, second) not in created:
            created.add((node, second))
            new = ("unnamed", len(created))
            graph.depths[new] = graph.depths[node] + 1
            facts.append(("role", second[1], *((node, new) if second[0] == "out" else (new, node))))
    return facts


def is_consistent(ontology, facts, depth=5):
    """No axiom is violated by what follows; only named individuals count as certainly distinct."""
    graph = chased(ontology, facts, depth)
    for axiom in ontology:
        if axiom[0] == "functional":
            for node in graph.depths:
                named = [other for other in graph.neighbours(node, axiom[1]) if graph.depths[other] == 0]
                if len(named) > 1:
                    return False
        elif axiom[0].startswith("disjoint") and not graph.holds(axiom, depth):
            return False
    return True


def example_fact(concept, one, other):
    """A fact that makes one node a member of a concept."""
    tag, name = concept
    return {"concept": ("concept", name, one), "out": ("role", name, one, other), "in": ("role", name, other, one)}[tag]


def turned(direction):
    return ("in" if direction[0] == "out" else "out", direction[1])


def model_of(ontology, facts, names, roles):
    """A table that describes a model if there is one: each direction that is missing somewhere gets a child."""
    concepts, directions = all_concepts(names, roles), all_concepts([], roles)
    role_axioms = [axiom for axiom in ontology if axiom[0] != "subclass"]
    links, above = {}, {}
    for concept in concepts:
        graph = chased(ontology, [example_fact(concept, 0, 1)], 1)
        above[concept] = [other for other in concepts if 0 in graph.members(other)]
        if concept in directions:
            graph = chased(role_axioms, [example_fact(concept, 0, 1)], 1)
            links[concept] = [other for other in directions if 1 in graph.neighbours(0, other)]
    kinds = []
    for direction in directions:
        inside = above[turned(direction)]
        known = [turned(link) for link in links[direction]]
        children = [directions.index(concept) for concept in inside if concept in directions and concept not in known]
        kinds.append((tuple(links[direction]), tuple(name for tag, name in inside if tag == "concept"), tuple(children)))
    graph = chased(ontology, facts, 1)
    named = Graph(facts_of(graph))
    children = {node: [number for number, direction in enumerate(directions)
                       if node in graph.members(direction) and node not in named.members(direction)]
                for node in graph.depths if graph.depths[node] == 0}
    return facts_of(graph), children, kinds


def facts_of(graph):
    """The facts of a graph about named individuals, sorted."""
    found = [("concept", name, node) for name in graph.names for node in graph.names[name]]
    found += [("role", role, *pair) for role in graph.roles for pair in graph.roles[role]]
    return sorted(fact for fact in found if all(graph.depths[node] == 0 for node in fact[2:]))


def unrolled(model, depth):
    """The model of a model table, as a graph, down to a depth."""
    facts, children, kinds = model
    graph = Graph(facts)
    waiting = [(individual, index) for individual in children for index in children[individual]]
    for individual in children:
        graph.depths.setdefault(individual, 0)
    counter = itertools.count()
    while waiting:
        parent, index = waiting.pop()
        child = ("unnamed", next(counter))
        graph.depths[child] = graph.depths[parent] + 1
        directions, names, indexes = kinds[index]
        for name in names:
            graph.include(("concept", name, child))
        for tag, role in directions:
            graph.include(("role", role, *((parent, child) if tag == "out" else (child, parent))))
        if graph.depths[child] < depth:
            waiting += [(child, inner) for inner in indexes]
    return graph


def all_concepts(names, roles):
    return [("concept", name) for name in names] + [(tag, role) for role in roles for tag in ("out", "in")]


def all_axioms(names, roles, tags):
    concepts = all_concepts(names, roles)
    found = [(tag, one, other) for tag in ("subclass", "disjoint") for one in concepts for other in concepts]
    found += [(tag, one, other) for one in roles for other in roles
              for tag in ("subrole", "subrole_inverse", "disjoint_roles", "disjoint_inverse")]
    found += [("functional", (tag, role)) for tag in ("out", "in") for role in roles]
    return [axiom for axiom in found if axiom[0] in tags]


INCLUSIONS = ("subclass", "subrole", "subrole_inverse")
TAGS = INCLUSIONS + ("disjoint", "disjoint_roles", "disjoint_inverse", "functional")


def random_ontology(rng, names, roles, *, positive, negative):
    """Distinct axioms, so many inclusions and so many others, that make an ontology."""
    axioms = rng.sample(all_axioms(names, roles, INCLUSIONS), positive)
    forbidden = [axiom[2] for axiom in axioms if axiom[0] in ("subrole", "subrole_inverse")]
    others = [axiom for axiom in all_axioms(names, roles, [tag for tag in TAGS if tag not in INCLUSIONS])
              if axiom[0] != "functional" or axiom[1][1] not in forbidden]
    axioms += rng.sample(others, min(negative, len(others)))
    rng.shuffle(axioms)
    return axioms


def random_facts(rng, names, roles, individuals, count):
    """Distinct facts, at most so many, in any order."""
    facts = [("concept", name, individual) for name in names for individual in individuals]
    facts += [("role", role, one, other) for role in roles for one in individuals for other in individuals]
    return rng.sample(facts, min(count, len(facts)))


def is_word(value, letters="abcdefghijklmnopqrstuvwxyz"):
    return type(value) is str and 0 < len(value) < 9 and set(value) <= set(letters)


def is_individual(value):
    return type(value) is tuple and len(value) == 2 and is_word(value[0]) and is_word(value[1], "abcdefghijklmnopqrstuvwxyz0123456789")


def is_pattern(value, is_term):
    """A fact or a pattern, depending on its terms."""
    if type(value) is not tuple or len(value) < 3 or type(value[0]) is not str or not is_word(value[1]):
        return False
    return (value[0], len(value)) in [("concept", 3), ("role", 4)] and all(is_term(term) for term in value[2:])


def is_slow_query(value):
    """Point 10, word by word."""
    if type(value) is not tuple or len(value) != 2 or type(value[0]) is not tuple or type(value[1]) is not tuple:
        return False
    if len(value[0]) > 3 or not 1 <= len(value[1]) <= 4:
        return False
    if not all(is_pattern(pattern, lambda term: is_word(term) or is_individual(term)) for pattern in value[1]):
        return False
    return all(is_individual(term) or is_word(term) and any(term in pattern[2:] for pattern in value[1]) for term in value[0])


def variables_of(query):
    return sorted({term for pattern in query[1] for term in pattern[2:] if isinstance(term, str)})


def replaced(query, names):
    """The query with other terms in place of variables."""
    answer_terms, patterns = query
    return (tuple(names.get(term, term) for term in answer_terms),
            tuple(pattern[:2] + tuple(names.get(term, term) for term in pattern[2:]) for pattern in patterns))


def are_slowly_isomorphic(one, other):
    """Point 10: some renaming of variables makes the queries equal, apart from order and repetition."""
    mine, yours = variables_of(one), variables_of(other)
    if len(mine) != len(yours):
        return False
    for order in itertools.permutations(yours):
        answer_terms, patterns = replaced(one, dict(zip(mine, order)))
        if answer_terms == other[0] and set(patterns) == set(other[1]):
            return True
    return False


def form_of(query):
    """A text that two queries share exactly if they are isomorphic."""
    texts = []
    for order in itertools.permutations(sorted(set(query[1]), key=repr)):
        names = {}
        for term in query[0] + tuple(term for pattern in order for term in pattern[2:]):
            if isinstance(term, str):
                names.setdefault(term, f"v{len(names)}")
        texts.append(repr(replaced((query[0], order), names)))
    return min(texts)


def slow_evaluate(facts, query):
    """Point 10: every way to assign named individuals to the variables is tried."""
    individuals = sorted({term for fact in facts for term in fact[2:]})
    variables = variables_of(query)
    answers = set()
    for chosen in itertools.product(individuals, repeat=len(variables)):
        answer, patterns = replaced(query, dict(zip(variables, chosen)))
        if set(patterns) <= set(facts):
            answers.add(answer)
    return sorted(answers)


def rows_in(graph, pattern):
    if pattern[0] == "concept":
        return [(node,) for node in graph.names.get(pattern[1], ())]
    return list(graph.pairs(pattern[1]))


def work_for(graph, query):
    """How much slow_answers has to try at most."""
    work = 1
    for pattern in query[1]:
        work *= max(1, len(rows_in(graph, pattern)))
    return work


def slow_answers(graph, query):
    """Point 11: the answers in a graph, its unnamed nodes included."""
    states = [{}]
    for pattern in query[1]:
        rows = rows_in(graph, pattern)
        states = [state for before in states for row in rows for state in fitting(before, pattern[2:], row)]
    answers = {tuple(state.get(term, term) if isinstance(term, str) else term for term in query[0]) for state in states}
    return sorted(answer for answer in answers if all(graph.depths.get(node, 0) == 0 for node in answer))


def fitting(state, terms, row):
    state = dict(state)
    for term, node in zip(terms, row):
        if (state.setdefault(term, node) if isinstance(term, str) else term) != node:
            return []
    return [state]


def goals_in(ontology):
    return {axiom[2] for axiom in ontology if axiom[0] == "subclass" and axiom[2][0] != "concept"}


def roles_in(query):
    return len([pattern for pattern in query[1] if pattern[0] == "role"])


def slow_certain_answers(ontology, facts, query, most=40000):
    """Point 12, for consistent facts: the answers in all that follows, as deep as the query can see; None if it is too much."""
    graph = chased(ontology, facts, len(goals_in(ontology)) + roles_in(query))
    return None if work_for(graph, query) > most else slow_answers(graph, query)


def random_query(rng, names, roles, individuals, *, most=4, answers=3):
    """A query whose terms are few variables and, now and then, named individuals."""
    terms = ["x", "y", "z", "w"][:rng.randrange(1, 5)]
    if rng.randrange(3) == 0:
        terms.append(rng.choice(individuals))
    patterns = []
    for number in range(rng.randrange(1, most + 1)):
        if names and rng.randrange(3) == 0:
            patterns.append(("concept", rng.choice(names), rng.choice(terms)))
        else:
            patterns.append(("role", rng.choice(roles), rng.choice(terms), rng.choice(terms)))
    occurring = sorted({term for pattern in patterns for term in pattern[2:] if isinstance(term, str)})
    pool = occurring * 3 + [rng.choice(individuals)]
    return tuple(rng.choice(pool) for position in range(rng.randrange(answers + 1))), tuple(patterns)


def is_free_standing(query, term):
    """Point 13, first sentence."""
    places = [other for pattern in set(query[1]) for other in pattern[2:] if other == term]
    return isinstance(term, str) and len(places) == 1 and term not in query[0]


def slow_axiom_step(axiom, query, position):
    """Point 13: the result of the axiom, backwards, at a pattern; None if it does not apply."""
    old = query[1][position]
    tag, first, second = axiom[0], axiom[1], axiom[-1]
    new = None
    if tag == "subclass":
        if second[0] == "concept" and old[0] == "concept" and old[1] == second[1]:
            subject = old[2]
        elif second[0] == "out" and old[:2] == ("role", second[1]) and is_free_standing(query, old[3]):
            subject = old[2]
        elif second[0] == "in" and old[:2] == ("role", second[1]) and is_free_standing(query, old[2]):
            subject = old[3]
        else:
            return None
        new = example_fact(first, subject, "newest")
    elif tag == "subrole" and old[:2] == ("role", second):
        new = ("role", first, old[2], old[3])
    elif tag == "subrole_inverse" and old[:2] == ("role", second):
        new = ("role", first, old[3], old[2])
    if new is None:
        return None
    changed = (query[0], tuple(new if pattern == old else pattern for pattern in query[1]))
    return replaced(changed, {variable: f"v{number}" for number, variable in enumerate(variables_of(changed))})


def slow_unify_step(query, position, other):
    """Point 13: the two patterns made equal and the second one dropped; None if they cannot be."""
    while query[1][position] != query[1][other]:
        one, two = query[1][position], query[1][other]
        if one[:2] != two[:2]:
            return None
        mine, yours = [(mine, yours) for mine, yours in zip(one[2:], two[2:]) if mine != yours][0]
        if not isinstance(mine, str) and not isinstance(yours, str):
            return None
        query = replaced(query, {mine: yours} if isinstance(mine, str) else {yours: mine})
    return (query[0], query[1][:other] + query[1][other + 1:])


def slow_steps(ontology, query):
    """All pairs (step without its source, result)."""
    count = len(query[1])
    found = [(("axiom", position, index), slow_axiom_step(ontology[index], query, position))
             for position in range(count) for index in range(len(ontology))]
    found += [(("unify", one, other), slow_unify_step(query, one, other)) for one in range(count) for other in range(one + 1, count)]
    return [(step, result) for step, result in found if result is not None]


def slow_closure(ontology, query, most=300):
    """The forms of all queries that steps lead to; None if there are too many."""
    waiting, forms = [query], {form_of(query)}
    while waiting:
        for step, result in slow_steps(ontology, waiting.pop()):
            if form_of(result) not in forms:
                forms.add(form_of(result))
                waiting.append(result)
        if len(forms) > most:
            return None
    return forms


def is_slow_rewriting(ontology, query, pairs):
    """Point 13, for a list of pairs of a query and a tuple: whether it is a closed rewriting."""
    if not pairs or repr(pairs[0]) != repr((query, ("initial",))):
        return False
    for number, (derived, step) in enumerate(pairs):
        if number:
            sources = [source for source in range(number) if repr(step[1:2]) == repr((source,))]
            results = [result for source in sources for taken, result in slow_steps(ontology, pairs[source][0])
                       if repr((taken[0], source) + taken[1:]) == repr(step)]
            if not any(are_slowly_isomorphic(result, derived) for result in results):
                return False
    forms = {form_of(derived) for derived, step in pairs}
    return all(form_of(result) in forms for derived, step in pairs for taken, result in slow_steps(ontology, derived))


def known_individuals(facts):
    return sorted({term for fact in facts for term in fact[2:]})


def aliases(value):
    """The ids of all lists and dicts in a nested value."""
    found = [id(value)] if isinstance(value, (list, dict)) else []
    parts = list(value.values()) if isinstance(value, dict) else value if isinstance(value, (list, tuple)) else []
    return found + [inner for part in parts for inner in aliases(part)]


def slow_homomorphisms(one, other):
    """Point 14: every dict from the variables of the first query to terms of the second is tried."""
    variables = variables_of(one)
    terms = sorted({term for pattern in other[1] for term in pattern[2:]} | set(other[0]), key=repr)
    for chosen in itertools.product(terms, repeat=len(variables)):
        names = dict(zip(variables, chosen))
        answer_terms, patterns = replaced(one, names)
        if answer_terms == other[0] and set(patterns) <= set(other[1]):
            yield names


def slow_minimize(queries):
    """Point 14 and the interface, word by word."""
    def leads(one, other):
        return any(True for names in slow_homomorphisms(queries[one], queries[other]))
    numbers = range(len(queries))
    return [queries[one] for one in numbers
            if not any(leads(other, one) and not (leads(one, other) and other > one) for other in numbers if other != one)]


def slow_list_answers(queries, facts):
    return {answer for query in queries for answer in slow_evaluate(facts, query)}


def slow_body_matches(tables, body):
    """Point 16: every choice of a row for each body item that fits, as a pair of the values and the row ids."""
    for positions in itertools.product(*[range(len(tables[table][2])) for table, terms in body]):
        values = {}
        for (table, terms), position in zip(body, positions):
            for term, value in zip(terms, tables[table][2][position]):
                known = values.setdefault(term, value) if isinstance(term, str) else term[1]
                if known != value:
                    break
            else:
                continue
            break
        else:
            yield values, tuple((table, position) for (table, terms), position in zip(body, positions))


def slow_facts_with_provenance(mappings, tables):
    found = []
    for index, (body, head) in enumerate(mappings):
        for values, ids in slow_body_matches(tables, body):
            found.append((head[:2] + tuple((word, values[variable]) for word, variable in head[2:]), index, ids))
    return sorted(found)


def slow_table_answers(tables, queries):
    """Point 17: the answers of table queries."""
    found = set()
    for answer_terms, body in queries:
        for values, ids in slow_body_matches(tables, body):
            found.add(tuple((word, values[term] if isinstance(term, str) else term[1]) for word, term in answer_terms))
    return sorted(found)


def slow_choice(query, chosen):
    """Point 17: the table query for a choice of one mapping for each pattern, or None."""
    body, stands = [], []
    for number, (pattern, (items, head)) in enumerate(zip(query[1], chosen)):
        own = {term: f"{term}.{number}" for table, terms in items for term in terms if isinstance(term, str)}
        body += [(table, tuple(own.get(term, term) for term in terms)) for table, terms in items]
        stands += [(term, word, own[variable]) for term, (word, variable) in zip(pattern[2:], head[2:])]
    individuals = {term for terms in (query[0],) + tuple(pattern[2:] for pattern in query[1]) for term in terms if isinstance(term, tuple)}
    stands += [(term, term[0], ("value", term[1])) for term in individuals]
    for one, other in itertools.combinations(range(len(stands)), 2):
        if stands[one][0] == stands[other][0]:
            mine, yours = stands[one], stands[other]
            if mine[1] != yours[1] or mine[2] != yours[2] and isinstance(mine[2], tuple) and isinstance(yours[2], tuple):
                return None
            names = {mine[2]: yours[2]} if isinstance(mine[2], str) else {yours[2]: mine[2]}
            stands = [(term, word, names.get(kept, kept)) for term, word, kept in stands]
            body = [(table, tuple(names.get(term, term) for term in terms)) for table, terms in body]
    return tuple(next((word, kept) for known, word, kept in stands if known == term) for term in query[0]), tuple(body)


def slow_choices(mappings, query):
    fitting = [[mapping for mapping in mappings if mapping[1][:2] == pattern[:2]] for pattern in query[1]]
    found = [slow_choice(query, chosen) for chosen in itertools.product(*fitting)]
    return [unfolded for unfolded in found if unfolded is not None]


def table_form(query):
    """A text that two table queries share exactly if they are isomorphic."""
    texts = []
    for order in itertools.permutations(sorted(set(query[1]), key=repr)):
        names = {}
        for term in tuple(term for word, term in query[0]) + tuple(term for table, terms in order for term in terms):
            if isinstance(term, str):
                names.setdefault(term, f"v{len(names)}")
        texts.append(repr((tuple((word, names.get(term, term)) for word, term in query[0]),
                           tuple((table, tuple(names.get(term, term) for term in terms)) for table, terms in order))))
    return min(texts)


def random_tables(rng):
    """Tables t, u and v with one, two and three columns and few values."""
    tables = {}
    for name, count in zip("tuv", (1, 2, 3)):
        rows = list(itertools.product(["1", "2", "x"], repeat=count))
        tables[name] = ("s", count, rng.sample(rows, rng.randrange(min(len(rows), 6))))
    return tables


def random_mapping(rng, names, roles, *, items=2):
    """A mapping for random_tables."""
    body = []
    for number in range(rng.randrange(1, items + 1)):
        table, count = rng.choice([("t", 1), ("u", 2), ("v", 3)])
        body.append((table, tuple(rng.choice(["d", "e", "f", "d", "e", ("value", rng.choice(["1", "2", "x"]))]) for column in range(count))))
    variables = [term for table, terms in body for term in terms if isinstance(term, str)]
    if not variables:
        return random_mapping(rng, names, roles, items=items)
    templates = [(rng.choice(["p", "p", "q"]), rng.choice(variables)) for number in range(2)]
    if rng.randrange(2):
        return tuple(body), ("concept", rng.choice(names), templates[0])
    return tuple(body), ("role", rng.choice(roles), *templates)


TABLE_COLUMNS = {"t": 1, "u": 2, "v": 3}


def random_table_query(rng, *, items=4, answers=2):
    """A table query for random_tables, with many or with few different terms."""
    variables = rng.choice(["d", "de", "defghij", "defghijklmn"])
    body = []
    for number in range(rng.randrange(1, items + 1)):
        table = rng.choice(["t", "u", "v"])
        pool = list(variables) + [("value", rng.choice(["1", "2"]))]
        body.append((table, tuple(rng.choice(pool) for column in range(TABLE_COLUMNS[table]))))
    terms = [term for table, terms in body for term in terms] + [("value", "1")]
    return tuple((rng.choice("pq"), rng.choice(terms)) for number in range(rng.randrange(answers + 1))), tuple(body)


def random_constraints(rng, count):
    """Constraints for random_tables."""
    found = []
    for number in range(count):
        table, other = rng.choice("tuv"), rng.choice("tuv")
        column, other_column = rng.randrange(TABLE_COLUMNS[table]), rng.randrange(TABLE_COLUMNS[other])
        found.append(rng.choice([("key", table, column), ("foreign_key", table, column, other, other_column)]))
    return found


def table_query_replaced(query, old, new):
    """The table query with one term in place of another."""
    return (tuple((word, new if term == old else term) for word, term in query[0]),
            tuple((table, tuple(new if term == old else term for term in terms)) for table, terms in query[1]))


def slow_simplifications(constraints, query, step):
    """Point 18, word by word, for a step with integers: [] if it is not possible, else a list with its result."""
    tag, index, item, other = step
    body = query[1]
    if not 0 <= index < len(constraints) or constraints[index][0] != tag or item == other:
        return []
    if not (0 <= item < len(body) and 0 <= other < len(body)):
        return []
    table, column = constraints[index][1:3]
    second_table, second_column = (table, column) if tag == "key" else constraints[index][3:]
    if body[item][0] != table or body[other][0] != second_table or body[item][1][column] != body[other][1][second_column]:
        return []
    if tag == "foreign_key":
        everywhere = [term for word, term in query[0]] + [term for name, terms in body for term in terms]
        others = [term for position, term in enumerate(body[other][1]) if position != second_column]
        if not all(isinstance(term, str) and everywhere.count(term) == 1 for term in others):
            return []
        return [(query[0], body[:other] + body[other + 1:])]
    if item > other:
        return []
    while query[1][item] != query[1][other]:
        one, two = [pair for pair in zip(query[1][item][1], query[1][other][1]) if pair[0] != pair[1]][0]
        if isinstance(one, tuple) and isinstance(two, tuple):
            return [None]
        query = table_query_replaced(query, two, one) if isinstance(two, str) else table_query_replaced(query, one, two)
    return [(query[0], query[1][:other] + query[1][other + 1:])]


def ordered_form(query):
    """A text that two table queries share exactly if they are equal up to the names of variables, in their order."""
    if query is None:
        return "None"
    names = {}
    for term in [term for word, term in query[0]] + [term for table, terms in query[1] for term in terms]:
        if isinstance(term, str):
            names.setdefault(term, f"v{len(names)}")
    return repr((tuple((word, names.get(term, term)) for word, term in query[0]),
                 tuple((table, tuple(names.get(term, term) for term in terms)) for table, terms in query[1])))


def is_slowly_satisfied(tables, constraint):
    """Point 15, for one constraint."""
    own = [row[constraint[2]] for row in tables[constraint[1]][2]]
    if constraint[0] == "key":
        return len(own) == len(set(own))
    return set(own) <= {row[constraint[4]] for row in tables[constraint[3]][2]}


def slow_covers(one, other):
    """Point 18: whether the body of one mapping maps into that of the other by a dict that turns head into head."""
    variables = sorted({term for table, terms in one[0] for term in terms if isinstance(term, str)})
    terms = sorted({term for table, terms in other[0] for term in terms}, key=repr)
    for chosen in itertools.product(terms, repeat=len(variables)):
        names = dict(zip(variables, chosen))
        body = {(table, tuple(names.get(term, term) for term in terms)) for table, terms in one[0]}
        head = one[1][:2] + tuple((word, names[variable]) for word, variable in one[1][2:])
        if body <= set(other[0]) and head == other[1]:
            return True
    return False


def slow_redundant_mappings(mappings):
    pairs = []
    for index, own in enumerate(mappings):
        for other, rival in enumerate(mappings):
            if index != other and slow_covers(rival, own) and not (other > index and slow_covers(own, rival)):
                pairs.append((index, other))
                break
    return pairs


def all_row_ids(tables):
    return sorted((name, position) for name in tables for position in range(len(tables[name][2])))


def only_rows(tables, ids):
    """The tables with these rows only."""
    return {name: (source, count, [row for position, row in enumerate(rows) if (name, position) in ids])
            for name, (source, count, rows) in tables.items()}


def slow_mapped_facts(mappings, tables):
    return sorted({fact for fact, index, ids in slow_facts_with_provenance(mappings, tables)})


def slow_minimal_sets(items, is_wanted):
    """All minimal subsets of the items that are wanted, as ascending tuples, sorted; every subset is tried."""
    found = []
    for size in range(len(items) + 1):
        for chosen in itertools.combinations(sorted(items), size):
            if not any(set(known) <= set(chosen) for known in found) and is_wanted(chosen):
                found.append(chosen)
    return sorted(found)


def slow_justifications(ontology, mappings, tables, query, answer):
    """Point 19; what follows without regard to conflicts is what follows from the inclusions alone."""
    inclusions = [axiom for axiom in ontology if axiom[0] in INCLUSIONS]

    def is_answered(ids):
        facts = slow_mapped_facts(mappings, only_rows(tables, ids))
        return answer in slow_certain_answers(inclusions, facts, query, most=10 ** 9)
    return slow_minimal_sets(all_row_ids(tables), is_answered)


def slow_conflict_sets(ontology, mappings, tables):
    """Point 19."""
    return slow_minimal_sets(all_row_ids(tables),
                             lambda ids: not is_consistent(ontology, slow_mapped_facts(mappings, only_rows(tables, ids)), 4))


def slow_hitting_sets(sets):
    """Point 20."""
    return slow_minimal_sets({item for members in sets for item in members},
                             lambda chosen: all(set(members) & set(chosen) for members in sets))


def slow_base_answers(ontology, mappings, tables, query):
    """The certain answers over tables, or None if their facts are inconsistent."""
    facts = slow_mapped_facts(mappings, tables)
    return slow_certain_answers(ontology, facts, query, most=10 ** 9) if is_consistent(ontology, facts) else None
