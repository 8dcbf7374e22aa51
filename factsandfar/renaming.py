"""Concept names, role names, tables and sources under other names."""

from factsandfar.axioms import concepts_of
from factsandfar.errors import InvalidRenaming
from factsandfar.queries import distinct
from factsandfar.shapes import is_word


def is_renaming(candidate):
    """True for a dict from words to distinct words."""
    if not isinstance(candidate, dict) or not all([is_word(key) for key in candidate]):
        return False
    names = list(candidate.values())
    return all([is_word(name) for name in names]) and len(set(names)) == len(names)


def renamed(renaming, word):
    return renaming.get(word, word)


def check_renaming(candidate, words):
    """Raises InvalidRenaming unless a value is a renaming that keeps these words apart."""
    if not is_renaming(candidate):
        raise InvalidRenaming()
    names = [renamed(candidate, word) for word in distinct(words)]
    if len(set(names)) != len(names):
        raise InvalidRenaming()


def check_renamings(pairs, concepts, roles):
    """Checks the renamings of pairs (kind, name), whose kind is "concept" for a concept name."""
    check_renaming(concepts, [name for kind, name in pairs if kind == "concept"])
    check_renaming(roles, [name for kind, name in pairs if kind != "concept"])


def renamed_pair(pair, concepts, roles):
    kind, name = pair
    return (kind, renamed(concepts if kind == "concept" else roles, name))


def renamed_fact(fact, concepts, roles):
    """A fact, a pattern or the head of a mapping under other names."""
    return renamed_pair(fact[:2], concepts, roles) + fact[2:]


def renamed_part(part, concepts, roles):
    """A part of an axiom, a role name or a concept, under other names."""
    return renamed(roles, part) if isinstance(part, str) else renamed_pair(part, concepts, roles)


def rename_ontology(ontology, concepts, roles):
    check_renamings(concepts_of(ontology), concepts, roles)
    return [axiom[:1] + tuple([renamed_part(part, concepts, roles) for part in axiom[1:]]) for axiom in ontology]


def rename_facts(facts, concepts, roles):
    check_renamings([fact[:2] for fact in facts], concepts, roles)
    return [renamed_fact(fact, concepts, roles) for fact in facts]


def rename_query(query, concepts, roles):
    answer_terms, patterns = query
    return (answer_terms, tuple(rename_facts(patterns, concepts, roles)))


def rename_tables(tables, names, sources):
    check_renaming(names, list(tables))
    check_renaming(sources, [source for source, column_count, rows in tables.values()])
    return {renamed(names, name): (renamed(sources, source), column_count, list(rows))
            for name, (source, column_count, rows) in tables.items()}


def rename_mappings(mappings, concepts, roles, names):
    check_renamings([head[:2] for body, head in mappings], concepts, roles)
    check_renaming(names, [table for body, head in mappings for table, terms in body])
    return [(tuple([(renamed(names, table), terms) for table, terms in body]), renamed_fact(head, concepts, roles))
            for body, head in mappings]
