"""The workshop: digit sets, functions, writers and pipes by name, with undo and redo."""

from earlywrite.definitions import can_be_defined, checked_item, is_unchanged, names_behind, names_of
from earlywrite.delays import MIN_DELAY, least_delay
from earlywrite.errors import CircularName, DuplicateName, EmptyHistory, InvalidCommand, InvalidName, LimitReached
from earlywrite.errors import NameInUse, UndefinedName, WrongKind
from earlywrite.expressions import is_name
from earlywrite.runs import Run
from earlywrite.workers import functions_for, machines_for, workers_for

MAX_NAMES = 24
COMMAND_SIZES = {"define": 3, "redefine": 3, "delete": 2}


def defined(definitions, name, item):
    """Return definitions with a new one."""
    if not is_name(name):
        raise InvalidName(name)
    if name in definitions:
        raise DuplicateName(name)
    kept = checked_item(item, definitions)
    if len(definitions) >= MAX_NAMES:
        raise LimitReached(MAX_NAMES)
    return {**definitions, name: kept}


def redefined(definitions, name, item):
    """Return definitions in which the item of a name is replaced."""
    if name not in definitions:
        raise UndefinedName(name)
    kept = checked_item(item, definitions)
    if kept[0] != definitions[name][0]:
        raise WrongKind(name)
    changed = {**definitions, name: kept}
    if name in names_behind(name, changed):
        raise CircularName(name)
    for user in sorted(changed):
        if name in names_behind(user, changed) and not can_be_defined(changed[user], changed):
            raise NameInUse(user)
    return changed


def deleted(definitions, name):
    """Return definitions without that of a name."""
    if name not in definitions:
        raise UndefinedName(name)
    for user in sorted(definitions):
        if name in names_of(definitions[user]):
            raise NameInUse(user)
    return {other: definitions[other] for other in definitions if other != name}


def is_command(command):
    """Return whether a tuple is a command of a batch."""
    return len(command) > 0 and COMMAND_SIZES.get(command[0]) == len(command)


def commanded(definitions, command):
    """Return what a command makes of definitions."""
    if command[0] == "define":
        return defined(definitions, command[1], command[2])
    if command[0] == "redefine":
        return redefined(definitions, command[1], command[2])
    return deleted(definitions, command[1])


def workshop_with(definitions):
    """Return a workshop with definitions, an empty history and an empty cache."""
    shop = Workshop()
    shop.present = definitions
    return shop


class Workshop:
    """A workshop, kept as its present definitions, the earlier ones, those that were taken back, and its cache."""

    def __init__(self):
        self.present = {}
        self.past = []
        self.future = []
        self.ready = {}
        self.made = 0

    def __len__(self):
        return len(self.present)

    def __eq__(self, other):
        return isinstance(other, Workshop) and self.present == other.present

    def __repr__(self):
        return f"Workshop({len(self.present)} names)"

    def define(self, name, item):
        """Add a definition."""
        self.take_step(defined(self.present, name, item))

    def redefine(self, name, item):
        """Replace the item of a name by one of the same kind."""
        self.take_step(redefined(self.present, name, item))

    def delete(self, name):
        """Remove a definition."""
        self.take_step(deleted(self.present, name))

    def batch(self, commands):
        """Run commands in order, as one step."""
        for at, command in enumerate(commands):
            if not is_command(command):
                raise InvalidCommand(at)
        definitions = self.present
        for command in commands:
            definitions = commanded(definitions, command)
        if len(commands) > 0:
            self.take_step(definitions)

    def take_step(self, definitions):
        """Go on to other definitions, such that this can be taken back."""
        self.past.append(self.present)
        self.future = []
        self.go_to(definitions)

    def go_to(self, definitions):
        """Make definitions the present ones, and drop the machines that they change from the cache."""
        self.ready = {name: self.ready[name] for name in self.ready if is_unchanged(name, self.present, definitions)}
        self.present = definitions

    def undo(self):
        """Take back the last step."""
        if not self.past:
            raise EmptyHistory()
        self.future.append(self.present)
        self.go_to(self.past.pop())

    def redo(self):
        """Apply the last step that was taken back again."""
        if not self.future:
            raise EmptyHistory()
        self.past.append(self.present)
        self.go_to(self.future.pop())

    def history(self):
        """Return how many steps can be taken back, and how many can be applied again."""
        return (len(self.past), len(self.future))

    def names(self):
        """Return the ascending list of the names."""
        return sorted(self.present)

    def item(self, name):
        """Return the item of a name."""
        if name not in self.present:
            raise UndefinedName(name)
        return self.present[name]

    def function_of(self, name):
        """Return the line function of a writer or pipe."""
        return functions_for(workers_for(name, self.present), self.present)[name]

    def machine(self, name):
        """Return the machine of a writer or pipe, and cache it."""
        if name not in self.ready:
            order = workers_for(name, self.present)
            functions = functions_for(order, self.present)
            machines = machines_for(order, self.present, functions, self.ready)
            self.made += len(machines) - len(self.ready)
            self.ready = machines
        return self.ready[name]

    def delay(self, name):
        """Return the delay of the machine of a name."""
        return self.machine(name).delay()

    def slack(self, name):
        """Return by how much the delay of a machine is greater than it has to be."""
        device = self.machine(name)
        if device.delay() < MIN_DELAY:
            return 0
        return device.delay() - least_delay(self.function_of(name), device.read_set(), device.write_set())[0]

    def start_run(self, name):
        """Return a new run of the machine of a name."""
        return Run(self.machine(name))

    def cached(self):
        """Return the ascending list of the names whose machines are cached."""
        return sorted(self.ready)

    def computations(self):
        """Return how many machines were computed and cached so far."""
        return self.made

    def clone(self):
        """Return an independent workshop with the same definitions, history and cache."""
        twin = workshop_with(self.present)
        twin.past = list(self.past)
        twin.future = list(self.future)
        twin.ready = dict(self.ready)
        twin.made = self.made
        return twin
