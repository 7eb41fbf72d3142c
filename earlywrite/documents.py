"""Documents: workshops as texts with one line for each name."""

from earlywrite.definitions import names_behind
from earlywrite.errors import EarlyError, InvalidDocument, UndefinedName
from earlywrite.expressions import FIGURES, MAX_FIGURES
from earlywrite.workshop import defined, workshop_with

KINDS = ("set", "function", "writer", "pipe")


def item_line(name, item):
    """Return the line of a document for a name and its item, without the newline."""
    if item[0] == "set":
        words = [f"{number}" for number in [item[1], *sorted(item[2])]]
    elif item[0] == "pipe":
        words = list(item[1])
    else:
        words = list(item[1:])
    return " ".join([item[0], name, *words])


def words_of(line):
    """Return the list of the words of a line, or an empty list if one of them is empty."""
    words = line.split(" ")
    return [] if "" in words else words


def is_number(word):
    """Return whether a word is a number as lines have it."""
    figures = word[1:] if word[:1] == "-" else word
    if not 1 <= len(figures) <= MAX_FIGURES or not all([figure in FIGURES for figure in figures]):
        return False
    return word == "0" or figures[0] != "0"


def are_numbers(words):
    """Return whether all of some words are numbers."""
    return all([is_number(word) for word in words])


def definition_in(words):
    """Return the name and the item that the words of a line define, or None if they have another form."""
    if len(words) < 3:
        return None
    kind, name, *rest = words
    if kind == "set" and len(rest) > 1 and are_numbers(rest):
        return (name, ("set", int(rest[0]), tuple([int(word) for word in rest[1:]])))
    if kind == "function":
        return (name, ("function", " ".join(rest)))
    if kind == "writer" and len(rest) == 3:
        return (name, ("writer", rest[0], rest[1], rest[2]))
    if kind == "pipe":
        return (name, ("pipe", tuple(rest)))
    return None


def place_of(name, definitions):
    """Return what the names of a document are sorted by."""
    return (KINDS.index(definitions[name][0]), len(names_behind(name, definitions)), name)


def format_workshop(workshop):
    """Return the document of a workshop."""
    definitions = {name: workshop.item(name) for name in workshop.names()}
    places = sorted([place_of(name, definitions) for name in definitions])
    return "".join([item_line(name, definitions[name]) + "\n" for rank, many, name in places])


def parse_workshop(text):
    """Return the workshop of a document."""
    lines = text.split("\n")
    definitions = {}
    last = ()
    for at, line in enumerate(lines[:-1]):
        definitions, place = with_line(definitions, line, at)
        if place <= last:
            raise InvalidDocument(at)
        last = place
    # Behind the last newline there is nothing.
    if lines[-1] != "":
        raise InvalidDocument(len(lines) - 1)
    return workshop_with(definitions)


def with_line(definitions, line, at):
    """Return definitions together with that of the line at an index, and the place of its name."""
    definition = definition_in(words_of(line))
    if definition is None:
        raise InvalidDocument(at)
    name, item = definition
    if item_line(name, item) != line:
        raise InvalidDocument(at)
    try:
        complete = defined(definitions, name, item)
    except (EarlyError, UndefinedName):
        raise InvalidDocument(at)
    return complete, place_of(name, complete)
