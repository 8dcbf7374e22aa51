"""A console: commands, written in words, on a knowledge base."""

from factsandfar.errors import InvalidCommand
from factsandfar.facts import is_named
from factsandfar.justifications import answer_justifications
from factsandfar.knowledge_base import KnowledgeBase
from factsandfar.queries import is_query
from factsandfar.repairing import repairs
from factsandfar.rewriting import rewrite
from factsandfar.shapes import is_word
from factsandfar.tables import MOST_COLUMNS, is_row
from factsandfar.text_format import axiom_from, mapping_from, query_from, table_from, term_text, terms_from

# The functions for the commands take a knowledge base and the words of a command, its first word included.


def check_form(is_right):
    if not is_right:
        raise InvalidCommand()


def table_change(action, line):
    """The change of a table line, or None; to remove a table, its name is enough."""
    if action == "add":
        described = table_from(line)
        return None if described is None else ("add_table",) + described
    return ("remove_table", line[1]) if len(line) == 2 and is_word(line[1]) else None


def row_change(action, line):
    row = tuple(line[2:])
    has_form = 1 <= len(row) <= MOST_COLUMNS and is_word(line[1]) and is_row(row, len(row))
    return (f"{action}_row", line[1], row) if has_form else None


def change_from(words):
    """The change of a command, or None."""
    action, line = words[0], words[1:]
    if line[:1] == ["table"]:
        return table_change(action, line)
    if line[:1] == ["row"]:
        return row_change(action, line)
    for kind, item in (("axiom", axiom_from(line)), ("mapping", mapping_from(line))):
        if item is not None:
            return (f"{action}_{kind}", item)
    return None


def run_change(base, words):
    change = change_from(words)
    check_form(change is not None)
    return str(base.apply(change))


def run_undo(base, words):
    check_form(len(words) == 1)
    return str(base.undo())


def run_version(base, words):
    check_form(len(words) == 1)
    return str(base.version())


def run_rows(base, words):
    check_form(len(words) == 1)
    return str(len(base))


def run_inconsistent(base, words):
    check_form(len(words) == 1)
    since = base.inconsistent_since()
    return "-" if since is None else str(since)


def run_repairs(base, words):
    check_form(len(words) == 1)
    return str(len(repairs(base.ontology(), base.mappings(), base.tables())))


def checked_query(words):
    query = query_from(words)
    check_form(is_query(query))
    return query


def parts_at_bar(words):
    """The words before the first bar, without the name of the command, and the words behind it."""
    check_form("|" in words)
    position = words.index("|")
    return words[1:position], words[position + 1:]


def answers_text(answers):
    if answers == [()]:
        return "yes"
    texts = [" ".join([term_text(individual) for individual in answer]) for answer in answers]
    return "; ".join(texts) if texts else "-"


def run_ask(base, words):
    return answers_text(base.answers(checked_query(words)))


def run_offline(base, words):
    sources, line = parts_at_bar(words)
    check_form(len(sources) > 0 and all([is_word(source) for source in sources]))
    return answers_text(base.answers(checked_query(line), offline=tuple(sources)))


def run_justifications(base, words):
    names, line = parts_at_bar(words)
    answer = terms_from(names)
    check_form(all([is_named(individual) for individual in answer]))
    query = checked_query(line)
    return str(len(answer_justifications(base.ontology(), base.mappings(), base.tables(), query, answer)))


def run_rewrite(base, words):
    return str(len(rewrite(base.ontology(), checked_query(words[1:]))))


COMMANDS = {
    "add": run_change,
    "remove": run_change,
    "undo": run_undo,
    "version": run_version,
    "rows": run_rows,
    "ask": run_ask,
    "offline": run_offline,
    "inconsistent": run_inconsistent,
    "justifications": run_justifications,
    "repairs": run_repairs,
    "rewrite": run_rewrite,
}


class Console:
    """Keeps a knowledge base, which is empty at first."""

    def __init__(self):
        self.base = KnowledgeBase()

    def run(self, command):
        check_form(isinstance(command, str))
        words = command.split(" ")
        check_form(words[0] in COMMANDS)
        run_command = COMMANDS[words[0]]
        return run_command(self.base, words)
