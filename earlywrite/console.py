"""The console: a workshop that is used by lines of words."""

from earlywrite.documents import are_numbers, definition_in, item_line, words_of
from earlywrite.errors import EarlyError, EmptyHistory, UndefinedName
from earlywrite.workshop import Workshop

DONE = "ok"
INVALID = "invalid"
NOTHING = "none"


# Each function below does what a line asks for, and returns the answer.


def take_back(shop):
    """Take back the last step."""
    shop.undo()
    return DONE


def apply_again(shop):
    """Apply the last step that was taken back again."""
    shop.redo()
    return DONE


def tell_names(shop):
    """Answer with the names."""
    return " ".join(shop.names()) if len(shop) > 0 else NOTHING


def remove_name(shop, name):
    """Remove a definition."""
    shop.delete(name)
    return DONE


def show_line(shop, name):
    """Answer with the line of the document."""
    return item_line(name, shop.item(name))


def tell_delay(shop, name):
    """Answer with the delay of a machine."""
    return f"{shop.delay(name)}"


def tell_slack(shop, name):
    """Answer with the slack of a machine."""
    return f"{shop.slack(name)}"


def tell_states(shop, name):
    """Answer with the number of states of a machine."""
    return f"{len(shop.machine(name))}"


def run_row(shop, name, row):
    """Answer with what a machine writes for a row."""
    written = shop.machine(name).run(row)
    return " ".join([f"{digit}" for digit in written]) if len(written) > 0 else NOTHING


PLAIN_LINES = {"undo": take_back, "redo": apply_again, "names": tell_names}
NAME_LINES = {"delete": remove_name, "show": show_line, "delay": tell_delay, "slack": tell_slack, "states": tell_states}


def answer_to(shop, words):
    """Do what the words of a line ask for, and return the answer."""
    definition = definition_in(words)
    if definition is not None:
        shop.define(definition[0], definition[1])
        return DONE
    if len(words) == 1 and words[0] in PLAIN_LINES:
        action = PLAIN_LINES[words[0]]
        return action(shop)
    if len(words) == 2 and words[0] in NAME_LINES:
        action = NAME_LINES[words[0]]
        return action(shop, words[1])
    if len(words) > 2 and words[0] == "run" and are_numbers(words[2:]):
        return run_row(shop, words[1], tuple([int(word) for word in words[2:]]))
    return INVALID


class Console:
    """A console, kept as its workshop and the list of what was executed."""

    def __init__(self, workshop=None):
        self.shop = Workshop() if workshop is None else workshop.clone()
        self.told = []

    def execute(self, line):
        """Execute a line and return the answer."""
        try:
            answer = answer_to(self.shop, words_of(line))
        except (EarlyError, UndefinedName, EmptyHistory) as error:
            answer = f"error {error.tag}"
        self.told.append((line, answer))
        return answer

    def workshop(self):
        """Return a clone of the workshop."""
        return self.shop.clone()

    def transcript(self):
        """Return the list of the pairs (line, answer) of all lines."""
        return list(self.told)
