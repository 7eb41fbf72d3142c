"""Workers: the writers and pipes among some definitions, their line functions and their machines."""

from earlywrite.definitions import set_named
from earlywrite.delays import least_delay
from earlywrite.errors import OutOfRange, UndefinedName, WrongKind
from earlywrite.expressions import compile_expression, parse_expression
from earlywrite.lines import compose_lines
from earlywrite.machines import compose, machine_of, trim
from earlywrite.remaining import is_safe


def workers_for(name, definitions):
    """Return the list of a worker and of all among its parts, each once and behind its parts, from left to right."""
    if name not in definitions:
        raise UndefinedName(name)
    if definitions[name][0] not in ("writer", "pipe"):
        raise WrongKind(name)
    order = []
    add_workers(name, definitions, order)
    return order


def add_workers(name, definitions, order):
    """Add a worker to a list, behind its parts, unless it is there already."""
    if name in order:
        return
    for part in parts_named(definitions[name]):
        add_workers(part, definitions, order)
    order.append(name)


def parts_named(item):
    """Return the names of the parts of a worker."""
    return item[1] if item[0] == "pipe" else ()


def functions_for(order, definitions):
    """Return the dict of the line functions of workers that stand behind their parts."""
    functions = {}
    # The errors of all writers come before those of the pipes.
    for name in order:
        if definitions[name][0] == "writer":
            functions[name] = function_of_writer(definitions[name], definitions)
    for name in order:
        if definitions[name][0] == "pipe":
            functions[name] = function_of_pipe(definitions[name], functions)
    return functions


def function_of_writer(item, definitions):
    """Return the line function of a writer."""
    kind, called, reading, writing = item
    read, write = set_named(reading, definitions), set_named(writing, definitions)
    expression = parse_expression(definitions[called][1])
    function = compile_expression(expression, read.low(), read.high(), definitions=bodies_in(definitions))
    if not is_safe(function, write):
        raise OutOfRange()
    return function


def bodies_in(definitions):
    """Return the list of the pairs (name, expression) of the functions."""
    return [(name, parse_expression(item[1])) for name, item in definitions.items() if item[0] == "function"]


def function_of_pipe(item, functions):
    """Return the line function of a pipe from those of its parts."""
    parts = parts_named(item)
    whole = functions[parts[0]]
    for part in parts[1:]:
        whole = compose_lines(functions[part], whole)
    return whole


def machines_for(order, definitions, functions, known):
    """Return the dict of the known machines and of those of workers that stand behind their parts."""
    machines = dict(known)
    for name in order:
        if name not in machines:
            item = definitions[name]
            if item[0] == "writer":
                machines[name] = machine_of_writer(item, definitions, functions[name])
            else:
                machines[name] = machine_of_pipe(item, machines)
    return machines


def machine_of_writer(item, definitions, function):
    """Return the machine of a writer from its line function."""
    kind, called, reading, writing = item
    read, write = set_named(reading, definitions), set_named(writing, definitions)
    delay, table, refutation = least_delay(function, read, write)
    return trim(machine_of(table, read, write, delay))


def machine_of_pipe(item, machines):
    """Return the machine of a pipe from those of its parts."""
    parts = parts_named(item)
    whole = machines[parts[0]]
    for part in parts[1:]:
        whole = compose(whole, machines[part])
    return whole
