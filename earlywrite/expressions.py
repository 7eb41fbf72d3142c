"""Expressions: their texts, the names that they call, their values and their line functions."""

from earlywrite.errors import CircularName, InvalidPoints, InvalidText, UndefinedName
from earlywrite.lines import abs_line, add_lines, compose_lines, max_lines, min_lines, scale_line, straight
from earlywrite.rationals import common_divisor, difference, fraction_text, greater_of, is_less, product
from earlywrite.rationals import smaller_of, sum_of

MAX_DEPTH = 12
MAX_FIGURES = 6
MIN_LETTERS = 2
MAX_LETTERS = 8
LETTERS = "abcdefghijklmnopqrstuvwxyz"
FIGURES = "0123456789"
OPERATIONS = ("abs", "max", "min")


def is_name(text):
    """Return whether a string is a name."""
    if not MIN_LETTERS <= len(text) <= MAX_LETTERS or text in OPERATIONS:
        return False
    return all([letter in LETTERS for letter in text])


def parse_expression(text):
    """Return the expression of a text."""
    expression, end = read_part(text, 0, 1)
    if end < len(text):
        raise InvalidText(end)
    return expression


# Each function below whose name begins with `read` gets the position at which something begins, and returns
# a pair of what it has read and of the position behind it.


def read_part(text, at, depth):
    """Read a part of an expression, which is the whole one if its depth is 1."""
    if depth > MAX_DEPTH or at == len(text):
        raise InvalidText(at)
    if text[at] == "(":
        return read_sum(text, at, depth)
    if text[at] in LETTERS:
        return read_word(text, at, depth)
    return read_number(text, at, depth)


def read_sum(text, at, depth):
    """Read a sum or a difference."""
    left, end = read_part(text, at + 1, depth + 1)
    end = behind(text, end, " ")
    kind = "subtract" if text[end:end + 1] == "-" else "add"
    end = behind(text, end, "- " if kind == "subtract" else "+ ")
    right, end = read_part(text, end, depth + 1)
    return (kind, left, right), behind(text, end, ")")


def read_word(text, at, depth):
    """Read what begins with a word."""
    end = at
    while end < len(text) and text[end] in LETTERS:
        end += 1
    word = text[at:end]
    if word == "x":
        return ("x",), end
    if word not in OPERATIONS and not is_name(word):
        raise InvalidText(at)
    part, end = read_part(text, behind(text, end, "("), depth + 1)
    if word == "abs":
        return ("abs", part), behind(text, end, ")")
    if word not in OPERATIONS:
        return ("call", word, part), behind(text, end, ")")
    right, end = read_part(text, behind(text, end, ", "), depth + 1)
    return (word, part, right), behind(text, end, ")")


def read_number(text, at, depth):
    """Read a number or a multiple."""
    value, end = read_fraction(text, at)
    if text[end:end + 1] != "*":
        return ("number", value), end
    part, end = read_part(text, end + 1, depth + 1)
    return ("multiple", value, part), end


def read_fraction(text, at):
    """Read a fraction."""
    begin = at
    if text[at] == "-":
        begin = at + 1
        if text[begin:begin + 1] == "0":
            raise InvalidText(begin)
    numerator, end = read_figures(text, begin)
    if begin > at:
        numerator = -numerator
    if text[end:end + 1] != "/":
        return (numerator, 1), end
    begin = end + 1
    denominator, end = read_figures(text, begin)
    if denominator < 2 or common_divisor(abs(numerator), denominator) != 1:
        raise InvalidText(begin)
    return (numerator, denominator), end


def read_figures(text, at):
    """Read an integer that is not negative."""
    end = at
    while end < len(text) and text[end] in FIGURES:
        if end == at + MAX_FIGURES or end > at and text[at] == "0":
            raise InvalidText(end)
        end += 1
    if end == at:
        raise InvalidText(at)
    return int(text[at:end]), end


def behind(text, at, wanted):
    """Return the position behind the characters that must stand at a position."""
    end = at
    for sign in wanted:
        if text[end:end + 1] != sign:
            raise InvalidText(end)
        end += 1
    return end


def format_expression(expression):
    """Return the text of an expression."""
    kind = expression[0]
    if kind == "x":
        return "x"
    if kind == "number":
        return fraction_text(expression[1])
    texts = [format_expression(part) for part in parts_of(expression)]
    if kind == "multiple":
        return f"{fraction_text(expression[1])}*{texts[0]}"
    if kind == "call":
        return f"{expression[1]}({texts[0]})"
    if kind == "add":
        return f"({texts[0]} + {texts[1]})"
    if kind == "subtract":
        return f"({texts[0]} - {texts[1]})"
    inner = ", ".join(texts)
    return f"{kind}({inner})"


def parts_of(expression):
    """Return the list of the expressions that an expression is directly made of, from left to right."""
    if expression[0] in ("x", "number"):
        return []
    if expression[0] in ("multiple", "call"):
        return [expression[2]]
    return list(expression[1:])


def names_in(expression):
    """Return the ascending list of the called names, without duplicates."""
    return sorted(set(called_names(expression)))


def called_names(expression):
    """Return the list of the called names in the order of the text, with duplicates."""
    names = [expression[1]] if expression[0] == "call" else []
    for part in parts_of(expression):
        names.extend(called_names(part))
    return names


def follow_names(names, bodies, path, followed):
    """Follow names and the names in their definitions, on a path of names whose definitions are being followed."""
    for name in names:
        if name in path:
            raise CircularName(name)
        if name not in bodies:
            raise UndefinedName(name)
        if name not in followed:
            follow_names(called_names(bodies[name]), bodies, [*path, name], followed)
            followed[name] = True


def checked_bodies(expression, definitions):
    """Return the definitions as a dict, if all names can be followed from an expression."""
    bodies = {name: body for name, body in definitions}
    follow_names(called_names(expression), bodies, [], {})
    return bodies


def parts_first(expression):
    """Return the list of all parts of an expression and of itself, each behind its own parts.

    Going through this list needs no recursion, which would become deep where definitions call each other.
    """
    order = []
    for part in parts_of(expression):
        order.extend(parts_first(part))
    order.append(expression)
    return order


class Calculator:
    """Finds values of expressions, and keeps those of calls, because names may be called very often."""

    def __init__(self, bodies):
        self.orders = {name: parts_first(bodies[name]) for name in bodies}
        self.known = {}

    def value_at(self, order, number):
        """Return the value at a number of the last one of expressions that stand behind their parts."""
        pending = []
        for part in order:
            inner = [pending.pop() for one in parts_of(part)]
            pending.append(self.value_of(part, inner[::-1], number))
        return pending[0]

    def value_of(self, expression, inner, number):
        """Return the value of an expression at a number, from the values of its parts."""
        kind = expression[0]
        if kind == "x":
            return number
        if kind == "number":
            return expression[1]
        if kind == "call":
            return self.value_of_call(expression[1], inner[0])
        return value_of_parts(expression, inner)

    def value_of_call(self, name, number):
        """Return the value of the definition of a name at a number."""
        if (name, number) not in self.known:
            self.known[(name, number)] = self.value_at(self.orders[name], number)
        return self.known[(name, number)]


def value_of_parts(expression, inner):
    """Return the value of an expression that has parts and is no call, from the values of its parts."""
    kind = expression[0]
    if kind == "multiple":
        return product(expression[1], inner[0])
    if kind == "abs":
        return (abs(inner[0][0]), inner[0][1])
    if kind == "add":
        return sum_of(inner[0], inner[1])
    if kind == "subtract":
        return difference(inner[0], inner[1])
    if kind == "max":
        return greater_of(inner[0], inner[1])
    return smaller_of(inner[0], inner[1])


def evaluate(expression, number, *, definitions=()):
    """Return the value of an expression at a number."""
    bodies = checked_bodies(expression, definitions)
    return Calculator(bodies).value_at(parts_first(expression), number)


class Compiler:
    """Finds line functions of expressions, and keeps those of definitions on the intervals that were needed."""

    def __init__(self, bodies):
        self.orders = {name: parts_first(bodies[name]) for name in bodies}
        self.known = {}
        self.calculator = Calculator(bodies)

    def function_on(self, order, low, high):
        """Return the line function of the last one of expressions that stand behind their parts."""
        pending = []
        for part in order:
            inner = [pending.pop() for one in parts_of(part)]
            pending.append(self.function_of_part(part, inner[::-1], low, high))
        return pending[0]

    def function_of_part(self, expression, inner, low, high):
        """Return the line function of an expression on an interval, from those of its parts."""
        kind = expression[0]
        if kind == "x":
            return straight((1, 1), (0, 1), low, high)
        if kind == "number":
            return straight((0, 1), expression[1], low, high)
        if kind == "call":
            return self.function_of_call(expression[1], inner[0])
        return function_of_parts(expression, inner)

    def function_of_call(self, name, inner):
        """Return the line function of a call from that of its argument."""
        low, high = inner.least(), inner.greatest()
        if low == high:
            value = self.calculator.value_of_call(name, low)
            return straight((0, 1), value, inner.low(), inner.high())
        if (name, low, high) not in self.known:
            self.known[(name, low, high)] = self.function_on(self.orders[name], low, high)
        return compose_lines(self.known[(name, low, high)], inner)


def function_of_parts(expression, inner):
    """Return the line function of an expression that has parts and is no call, from those of its parts."""
    kind = expression[0]
    if kind == "multiple":
        return scale_line(inner[0], expression[1])
    if kind == "abs":
        return abs_line(inner[0])
    if kind == "add":
        return add_lines(inner[0], inner[1])
    if kind == "subtract":
        return add_lines(inner[0], scale_line(inner[1], (-1, 1)))
    if kind == "max":
        return max_lines(inner[0], inner[1])
    return min_lines(inner[0], inner[1])


def compile_expression(expression, low, high, *, definitions=()):
    """Return the line function of an expression on an interval."""
    bodies = checked_bodies(expression, definitions)
    if not is_less(low, high):
        raise InvalidPoints()
    return Compiler(bodies).function_on(parts_first(expression), low, high)
