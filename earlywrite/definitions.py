"""Definitions: dicts of items by name, as a workshop has them.

Items are kept with the digits of a set as an ascending tuple and the parts of a pipe as a tuple. A dict of
definitions is never modified: whoever changes a definition makes a new dict, so that old ones can be kept.
"""

from earlywrite.digits import DigitSet
from earlywrite.errors import EarlyError, Incompatible, InvalidItem, NotRedundant, UndefinedName, WrongKind
from earlywrite.expressions import names_in, parse_expression

SIZES = {"set": 3, "function": 2, "writer": 4, "pipe": 2}
MAX_PARTS = 6


def checked_item(item, definitions):
    """Return an item in the form in which it is kept, or raise the first item error."""
    kept = kept_item(item)
    check_names(kept, definitions)
    check_sets(kept, definitions)
    return kept


def kept_item(item):
    """Return an item in the form in which it is kept, whatever the names in it stand for."""
    check_form(item)
    if item[0] == "set":
        return ("set", item[1], DigitSet(item[1], item[2]).digits)
    if item[0] == "pipe":
        return ("pipe", tuple(item[1]))
    if item[0] == "function":
        parse_expression(item[1])
    return item


def check_form(item):
    """Raise an error if a tuple does not have the form of an item."""
    if len(item) == 0 or SIZES.get(item[0]) != len(item):
        raise InvalidItem()
    if item[0] == "pipe" and not 1 <= len(item[1]) <= MAX_PARTS:
        raise InvalidItem()


def check_names(item, definitions):
    """Raise an error for the first name in an item that is not defined or has a wrong kind."""
    for at, name in enumerate(names_of(item)):
        if name not in definitions:
            raise UndefinedName(name)
        if definitions[name][0] not in kinds_at(item, at):
            raise WrongKind(name)


def names_of(item):
    """Return the list of the names to which an item refers, in the order in which they are checked."""
    if item[0] == "function":
        return names_in(parse_expression(item[1]))
    if item[0] == "writer":
        return list(item[1:])
    return list(item[1]) if item[0] == "pipe" else []


def kinds_at(item, at):
    """Return the kinds that the name at an index of the names of an item may have."""
    if item[0] == "pipe":
        return ("writer", "pipe")
    return ("set",) if item[0] == "writer" and at > 0 else ("function",)


def check_sets(item, definitions):
    """Raise an error if the sets of the names in an item do not fit."""
    if item[0] == "writer":
        read, write = set_named(item[2], definitions), set_named(item[3], definitions)
        if read.base != write.base:
            raise Incompatible()
        if not write.is_redundant():
            raise NotRedundant()
    if item[0] == "pipe":
        for left, right in zip(item[1], item[1][1:]):
            if set_written_by(left, definitions) != set_read_by(right, definitions):
                raise Incompatible()


def can_be_defined(item, definitions):
    """Return whether an item has no item error."""
    try:
        checked_item(item, definitions)
    except (EarlyError, UndefinedName):
        return False
    return True


def set_named(name, definitions):
    """Return the digit set of a name."""
    kind, base, digits = definitions[name]
    return DigitSet(base, digits)


def set_read_by(name, definitions):
    """Return the digit set that a writer or pipe reads."""
    item = definitions[name]
    while item[0] == "pipe":
        item = definitions[item[1][0]]
    return set_named(item[2], definitions)


def set_written_by(name, definitions):
    """Return the digit set that a writer or pipe writes."""
    item = definitions[name]
    while item[0] == "pipe":
        item = definitions[item[1][-1]]
    return set_named(item[3], definitions)


def names_behind(name, definitions):
    """Return the list of the names on which a name depends, each once; if there is a circle, it may be among them."""
    found = []
    pending = [name]
    while pending:
        present = pending.pop()
        for other in names_of(definitions[present]):
            if other not in found:
                found.append(other)
                pending.append(other)
    return found


def is_unchanged(name, before, now):
    """Return whether a name that was defined, and all on which it depended, have the same items now."""
    return all([before[other] == now.get(other) for other in [name, *names_behind(name, before)]])
