"""The errors of the package."""

from factsandfar.shapes import copied


class OntologyError(ValueError):
    """The base class of the errors for invalid input."""


class InvalidConcept(OntologyError):
    """A value is not a concept, or not a direction where one is required."""


class InvalidOntology(OntologyError):
    """A value is not an ontology; index is that of the first wrong item, or None."""

    def __init__(self, index):
        self.index = index


class InvalidFacts(OntologyError):
    """A value is not facts; index is that of the first wrong item, or None."""

    def __init__(self, index):
        self.index = index


class InvalidQuery(OntologyError):
    """A value is not a query."""


class InvalidTables(OntologyError):
    """A value is not tables; table is the smallest word with a wrong entry, or None."""

    def __init__(self, table):
        self.table = table


class InvalidConstraints(OntologyError):
    """A value is not constraints; index is that of the first wrong item, or None."""

    def __init__(self, index):
        self.index = index


class InvalidMappings(OntologyError):
    """A value is not mappings; index is that of the first wrong item, or None."""

    def __init__(self, index):
        self.index = index


class InvalidStep(OntologyError):
    """A value is not a possible simplification step."""


class InvalidChange(OntologyError):
    """A value is not a possible change of a knowledge base."""


class InvalidRenaming(OntologyError):
    """A value is not a renaming, or it gives two words the same name."""


class ParseError(OntologyError):
    """A text has a wrong form; line is the index of the first wrong line, or None."""

    def __init__(self, line):
        self.line = line


class InvalidCommand(OntologyError):
    """A value does not have the form of a console command."""


class InvalidAnswer(LookupError):
    """A value is not an answer tuple for a query."""


class UnknownName(LookupError):
    """Nothing is saved under a name, or the name is not a word."""

    def __init__(self, name):
        self.name = copied(name)


class LimitExceeded(OverflowError):
    """There are more results than the limit."""

    def __init__(self, limit):
        self.limit = limit


class Inconsistent(RuntimeError):
    """There is no model; the certificate is a conflict."""

    def __init__(self, certificate):
        self.certificate = copied(certificate)
