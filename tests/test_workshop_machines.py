"""Promises [19] and [20]: functions and machines of writers and pipes, their errors in order, and what is cached."""

import itertools
import unittest
from fractions import Fraction

from earlywrite.delays import least_delay
from earlywrite.digits import DigitSet
from earlywrite.expressions import compile_expression, parse_expression
from earlywrite.lines import LineFunction, compose_lines
from earlywrite.machines import Machine, compose, find_unlike, judge, machine_of, trim
from earlywrite.runs import Run
from earlywrite.workshop import Workshop
from helpers import EXAMPLE, caught, plain, shop_with, told, value_at

SETS = {"bin": DigitSet(2, (-1, 0, 1)), "wide": DigitSet(2, (-2, -1, 0, 1, 2)), "bits": DigitSet(2, (0, 1)),
        "ten": DigitSet(10, range(-6, 7))}
TEXTS = {
    "id": "x", "half": "1/2*x", "third": "1/3*x", "fold": "(1 - 2*abs(x))", "clip": "max(-1, min(1, x))", "zero": "0",
    "twice": "clip(2*x)",
    # Sixteen pieces; more than the delay 9; more than 400 states; values outside of the interval.
    "many": "fold(fold(fold(fold(x))))", "steep": "clip(1000*x)", "odd": "1/999983*x", "far": "2*x",
    "some": "1/13*x", "more": "1/23*x", "much": "1/29*x", "little": "1/17*x",
}
NEEDED = {"twice": ["clip"], "many": ["fold"], "steep": ["clip"]}


def own_function(text, read):
    """The line function of a text, without a workshop."""
    bodies = [(name, parse_expression(body)) for name, body in TEXTS.items()]
    return compile_expression(parse_expression(text), SETS[read].low(), SETS[read].high(), definitions=bodies)


def own_machine(text, read, write):
    """The machine of a writer, without a workshop."""
    delay, table, refutation = least_delay(own_function(text, read), SETS[read], SETS[write])
    return trim(machine_of(table, SETS[read], SETS[write], delay))


def own_pipe(machines):
    whole = machines[0]
    for machine in machines[1:]:
        whole = compose(whole, machine)
    return whole


def shop_of(writers, *pipes):
    """A workshop with what some writers need, the writers (name: (function, read, write)), and pipes (name, parts)."""
    shop = Workshop()
    for name in sorted({part for item in writers.values() for part in item[1:]}):
        shop.define(name, ("set", SETS[name].base, SETS[name].digits))
    wanted = [item[0] for item in writers.values()]
    for name in sorted({other for called in wanted for other in NEEDED.get(called, [])} - set(wanted)):
        shop.define(name, ("function", TEXTS[name]))
    for name in sorted(set(wanted), key=lambda name: (name in NEEDED, name)):
        shop.define(name, ("function", TEXTS[name]))
    for name, item in writers.items():
        shop.define(name, ("writer", *item))
    for name, parts in pipes:
        shop.define(name, ("pipe", parts))
    return shop


def plain_writers(*functions):
    """Writers from bin to bin, each with the name of its function behind `w`."""
    return {"w" + name: (name, "bin", "bin") for name in functions}


class ExamplesTest(unittest.TestCase):
    def setUp(self):
        self.shop = Workshop()
        self.shop.define("bin", ("set", 2, (-1, 0, 1)))
        self.shop.define("half", ("function", "1/2*x"))
        self.shop.define("slow", ("writer", "half", "bin", "bin"))

    def test_function_of(self):
        self.assertEqual(self.shop.function_of("slow").points(), [((-1, 1), (-1, 2)), ((1, 1), (1, 2))])

    def test_delay_and_slack(self):
        self.shop.define("both", ("pipe", ("slow", "slow")))
        self.assertEqual([self.shop.delay("slow"), self.shop.delay("both")], [-1, -2])
        self.assertEqual(self.shop.slack("both"), 0)

    def test_start_run(self):
        run = self.shop.start_run("slow")
        run.feed(1)
        self.assertEqual([run.read(), len(run.written())], [(1,), 2])

    def test_cached(self):
        self.shop.define("both", ("pipe", ("slow", "slow")))
        self.shop.machine("both")
        self.assertEqual([self.shop.cached(), self.shop.computations()], [["both", "slow"], 2])


class WritersTest(unittest.TestCase):
    def test_against_functions_and_machines_of_the_package(self):
        for name, read, write in (("id", "bin", "bin"), ("id", "bin", "wide"), ("half", "wide", "bin"),
                                  ("third", "wide", "wide"), ("fold", "bin", "bin"), ("clip", "wide", "bin"),
                                  ("twice", "wide", "bin"), ("zero", "bin", "bin"), ("half", "bits", "bin"),
                                  ("half", "ten", "ten"), ("some", "bin", "bin")):
            with self.subTest(f"{name} {read} {write}"):
                shop = shop_of({"made": (name, read, write)})
                function, machine = shop.function_of("made"), shop.machine("made")
                self.assertIsInstance(function, LineFunction)
                self.assertIsInstance(machine, Machine)
                self.assertEqual(function, own_function(TEXTS[name], read))
                self.assertEqual(machine, own_machine(TEXTS[name], read, write))
                self.assertEqual((machine.read_set(), machine.write_set()), (SETS[read], SETS[write]))
                self.assertEqual((shop.delay("made"), shop.slack("made")), (machine.delay(), 0))
                self.assertIsNone(judge(machine, function))
                self.assertEqual(trim(machine), machine)
                run = shop.start_run("made")
                self.assertIsInstance(run, Run)
                self.assertEqual(run, Run(machine))

    def test_functions_that_call_functions(self):
        shop = shop_with([("bin", ("set", 2, (-1, 0, 1))), ("ff", ("function", "1/2*x")),
                          ("gg", ("function", "(ff(x) + ff(abs(x)))")), ("hh", ("function", "gg((ff(x) - 1/4))")),
                          ("made", ("writer", "hh", "bin", "bin"))])
        rows = plain(shop.function_of("made"))
        for k in range(-12, 13):
            number = Fraction(k, 12)
            inner = number / 2 - Fraction(1, 4)
            self.assertEqual(value_at(rows, number), inner / 2 + abs(inner) / 2)
        self.assertIsNone(judge(shop.machine("made"), shop.function_of("made")))


class PipesTest(unittest.TestCase):
    WRITERS = {"widen": ("id", "bin", "wide"), "clips": ("clip", "wide", "bin"), "halve": ("half", "wide", "bin"),
               "folds": ("fold", "bin", "bin"), "thirds": ("third", "bin", "bin"), "stay": ("third", "wide", "wide")}
    READS = {name: item[1] for name, item in WRITERS.items()}
    WRITES = {name: item[2] for name, item in WRITERS.items()}

    def own(self, parts):
        """The function and the machine of a pipe, from those of its writers."""
        functions = [own_function(TEXTS[self.WRITERS[part][0]], self.READS[part]) for part in parts]
        machines = [own_machine(TEXTS[self.WRITERS[part][0]], self.READS[part], self.WRITES[part]) for part in parts]
        whole = functions[0]
        for function in functions[1:]:
            whole = compose_lines(function, whole)
        return whole, own_pipe(machines)

    def test_all_pipes_of_one_to_three_parts(self):
        shop, many = shop_of(self.WRITERS), 0
        for length in (1, 2, 3):
            for parts in itertools.product(self.WRITERS, repeat=length):
                if all(self.WRITES[left] == self.READS[right] for left, right in zip(parts, parts[1:])):
                    shop.define("whole", ("pipe", parts))
                    function, machine = self.own(parts)
                    self.assertEqual(shop.function_of("whole"), function)
                    self.assertEqual(shop.machine("whole"), machine)
                    self.assertEqual(shop.delay("whole"), machine.delay())
                    self.assertEqual(shop.slack("whole"),
                                     machine.delay() - least_delay(function, machine.read_set(),
                                                                   machine.write_set())[0])
                    self.assertEqual((machine.read_set(), machine.write_set()),
                                     (SETS[self.READS[parts[0]]], SETS[self.WRITES[parts[-1]]]))
                    shop.delete("whole")
                    many += 1
        self.assertGreater(many, 60)

    def test_a_pipe_with_one_part(self):
        shop = shop_of(self.WRITERS, ("one", ("folds",)), ("again", ("one",)))
        for name in ("one", "again"):
            self.assertEqual(shop.machine(name), shop.machine("folds"))
            self.assertEqual(shop.function_of(name), shop.function_of("folds"))

    def test_pipes_of_pipes(self):
        inner, outer = ("widen", "halve"), ("thirds", "folds")
        shop = shop_of(self.WRITERS, ("inner", inner), ("outer", outer), ("mixed", ("inner", "thirds", "outer")),
                       ("deep", ("mixed", "inner")))
        for name, parts in (("inner", inner), ("outer", outer), ("mixed", (*inner, "thirds", *outer)),
                            ("deep", (*inner, "thirds", *outer, *inner))):
            function, machine = self.own(parts)
            self.assertEqual(shop.function_of(name), function)
            # The trimmed composition does not depend on how the parts are put together.
            self.assertIsNone(find_unlike(shop.machine(name), machine))
            self.assertEqual(shop.machine(name), machine)
            self.assertIsNone(judge(shop.machine(name), function))
        machines = {name: shop.machine(name) for name in ("inner", "thirds", "outer")}
        self.assertEqual(shop.machine("mixed"),
                         compose(compose(machines["inner"], machines["thirds"]), machines["outer"]))

    def test_a_pipe_writes_what_its_parts_write_one_after_the_other(self):
        shop = shop_of(self.WRITERS, ("whole", ("widen", "halve", "thirds", "folds")))
        row = (1, -1, 0, 0, 1, 1, -1, 0, 1, 1, 0, -1)
        passed = row
        for part in ("widen", "halve", "thirds", "folds"):
            passed = shop.machine(part).run(passed)
        written = shop.machine("whole").run(row)
        self.assertEqual(written, passed[:len(written)])
        self.assertEqual(len(written), len(row) - shop.delay("whole"))

    def test_pipes_in_which_everything_stands_twice(self):
        # Each pipe has the one before it twice: without looking at each name once, this would take forever.
        shop = shop_of({"same": ("id", "bin", "bin")}, ("pa", ("same", "same")))
        for one, other in zip("abcdefghijklmnopqrs", "bcdefghijklmnopqrst"):
            shop.define("p" + other, ("pipe", ["p" + one] * 6))
        self.assertEqual(shop.function_of("pt"), own_function("x", "bin"))
        self.assertEqual((shop.delay("pt"), shop.slack("pt"), shop.computations()), (0, 0, 21))


class FunctionErrorsTest(unittest.TestCase):
    def check(self, shop, error, name="whole"):
        """The errors of function_of are raised by all requests, and nothing is cached."""
        for call in (shop.function_of, shop.machine, shop.delay, shop.slack, shop.start_run):
            self.assertEqual(caught(call, name), error)
        self.assertEqual((shop.cached(), shop.computations()), ([], 0))

    def test_names(self):
        shop = shop_with()
        for name in ("nope", "", "x", "Slow"):
            self.check(shop, ("UndefinedName", name), name)
        for name in ("bin", "bits", "half", "near"):
            self.check(shop, ("WrongKind", name), name)

    def test_too_many_pieces_in_a_writer(self):
        shop = shop_of(plain_writers("many"), ("whole", ("wmany",)))
        self.check(shop, ("LimitReached", 12))
        self.check(shop, ("LimitReached", 12), "wmany")

    def test_values_outside_of_the_interval(self):
        shop = shop_of(plain_writers("far"), ("whole", ("wfar",)))
        self.check(shop, ("OutOfRange",))
        self.check(shop, ("OutOfRange",), "wfar")
        shop.define("wide", ("set", 2, (-2, -1, 0, 1, 2)))
        shop.define("good", ("writer", "far", "bin", "wide"))
        self.assertEqual(shop.function_of("good").points(), [((-1, 1), (-2, 1)), ((1, 1), (2, 1))])

    def test_values_just_outside(self):
        for text, error in (("x", None), ("999999/999998*x", ("OutOfRange",)), ("(x + 1/999999)", ("OutOfRange",)),
                            ("(x - 1/999999)", ("OutOfRange",)), ("(1 - 2*abs(x))", None),
                            ("(1 - 999999/499999*abs(x))", ("OutOfRange",))):
            shop = shop_with([("bin", ("set", 2, (-1, 0, 1))), ("ff", ("function", text)),
                              ("whole", ("writer", "ff", "bin", "bin"))])
            if error is None:
                self.assertEqual(shop.function_of("whole").greatest(), (1, 1))
            else:
                self.check(shop, error)

    def test_too_many_pieces_come_before_values_outside_of_the_interval(self):
        shop = shop_with([("bin", ("set", 2, (-1, 0, 1))), ("fold", ("function", TEXTS["fold"])),
                          ("both", ("function", "5*fold(fold(fold(fold(x))))")),
                          ("whole", ("writer", "both", "bin", "bin"))])
        self.check(shop, ("LimitReached", 12))

    def test_writers_from_left_to_right(self):
        shop = shop_of(plain_writers("far", "many", "id"))
        for parts, error in ((("wfar", "wmany"), ("OutOfRange",)), (("wmany", "wfar"), ("LimitReached", 12)),
                             (("wid", "wfar", "wmany"), ("OutOfRange",)),
                             (("wid", "wid", "wmany"), ("LimitReached", 12))):
            shop.define("whole", ("pipe", parts))
            self.check(shop, error)
            shop.delete("whole")
        shop.define("one", ("pipe", ("wid", "wfar")))
        shop.define("other", ("pipe", ("wid", "wmany")))
        for parts, error in ((("one", "other"), ("OutOfRange",)), (("other", "one"), ("LimitReached", 12)),
                             (("wid", "other", "wfar"), ("LimitReached", 12))):
            shop.define("whole", ("pipe", parts))
            self.check(shop, error)
            shop.delete("whole")

    def test_too_many_pieces_in_a_composition(self):
        shop = shop_of(plain_writers("fold", "zero", "half", "far"), ("three", ("wfold",) * 3),
                       ("four", ("wfold",) * 4))
        self.assertEqual(len(shop.function_of("three")), 8)
        self.check(shop, ("LimitReached", 12), "four")
        # The whole function would have one piece, but its first few parts, or a pipe among them, have more.
        for parts in (("wfold",) * 4 + ("wzero",), ("four", "wzero"), ("wzero", "four"), ("three", "wfold", "wzero"),
                      ("wfold", "three")):
            shop.define("whole", ("pipe", parts))
            self.check(shop, ("LimitReached", 12))
            shop.delete("whole")
        shop.define("whole", ("pipe", ("wzero", "three", "wfold")))
        # 0 is folded to 1, and from there on to -1.
        self.assertEqual(shop.function_of("whole").points(), [((-1, 1), (-1, 1)), ((1, 1), (-1, 1))])

    def test_writers_come_before_compositions(self):
        shop = shop_of(plain_writers("fold", "far"), ("four", ("wfold",) * 4), ("whole", ("four", "wfar")))
        self.check(shop, ("OutOfRange",))

    def test_twelve_pieces_are_not_too_many(self):
        # On [-1, 1] the saw has six pieces, and the fold before it makes it twelve.
        shop = shop_with([("bin", ("set", 2, (-1, 0, 1))), ("fold", ("function", TEXTS["fold"])),
                          ("saw", ("function", "abs((abs((3/2*abs(x) - 1)) - 1/2))")),
                          ("wfold", ("writer", "fold", "bin", "bin")), ("wsaw", ("writer", "saw", "bin", "bin")),
                          ("whole", ("pipe", ("wfold", "wsaw"))), ("over", ("pipe", ("wfold", "wfold", "wsaw")))])
        self.assertEqual(len(shop.function_of("wsaw")), 6)
        self.assertEqual(len(shop.function_of("whole")), 12)
        self.check(shop, ("LimitReached", 12), "over")


class MachineErrorsTest(unittest.TestCase):
    def check(self, shop, error, name="whole"):
        """All but function_of raise the error, and nothing is cached."""
        before = told(shop)
        shop.function_of(name)
        for call in (shop.machine, shop.delay, shop.slack, shop.start_run):
            self.assertEqual(caught(call, name), error)
            self.assertEqual(told(shop), before)

    def test_writers_without_a_machine(self):
        shop = shop_of(plain_writers("steep", "odd"))
        self.check(shop, ("LimitReached", 9), "wsteep")
        self.check(shop, ("LimitReached", 400), "wodd")

    def test_errors_of_functions_come_first(self):
        shop = shop_of(plain_writers("steep", "far", "many"))
        for parts, error in ((("wsteep", "wfar"), ("OutOfRange",)), (("wsteep", "wmany"), ("LimitReached", 12))):
            shop.define("whole", ("pipe", parts))
            self.assertEqual(caught(shop.machine, "whole"), error)
            shop.delete("whole")

    def test_parts_from_left_to_right(self):
        shop = shop_of(plain_writers("steep", "odd", "id", "half"))
        for parts, error in ((("wsteep", "wodd"), ("LimitReached", 9)), (("wodd", "wsteep"), ("LimitReached", 400)),
                             (("wid", "whalf", "wodd"), ("LimitReached", 400)),
                             (("wid", "whalf", "wsteep", "wodd"), ("LimitReached", 9))):
            shop.define("whole", ("pipe", parts))
            self.check(shop, error)
            shop.delete("whole")

    def test_delays_above_sixty(self):
        shop = shop_of(plain_writers("zero", "odd", "steep"), ("six", ("wzero",) * 6),
                       ("ten", ("six",) + ("wzero",) * 4),
                       ("over", ("six", "six")), ("one", ("ten", "wzero")))
        self.assertEqual((shop.delay("six"), shop.delay("ten")), (-36, -60))
        self.assertEqual((shop.slack("six"), shop.slack("ten")), (0, 0))
        self.check(shop, ("LimitReached", 60), "over")
        self.check(shop, ("LimitReached", 60), "one")
        # Each part comes before the pipes that contain it, and before the parts to its right.
        for parts, error in ((("over", "wodd"), ("LimitReached", 60)), (("wodd", "over"), ("LimitReached", 400)),
                             (("six", "six", "wodd"), ("LimitReached", 400)),
                             (("six", "six", "wsteep"), ("LimitReached", 9))):
            shop.define("whole", ("pipe", parts))
            self.check(shop, error)
            shop.delete("whole")

    def test_too_many_states_in_a_composition(self):
        shop = shop_of(plain_writers("some", "more", "much", "steep"), ("fits", ("wsome", "wmore")),
                       ("over", ("wmore", "wmuch")), ("whole", ("over", "wsteep")), ("other", ("wsteep", "over")))
        self.check(shop, ("LimitReached", 400), "over")
        self.check(shop, ("LimitReached", 400))
        self.check(shop, ("LimitReached", 9), "other")
        self.assertEqual(shop.delay("fits"), -5)

    def test_an_error_caches_nothing_but_keeps_what_was_cached(self):
        shop = shop_of(plain_writers("half", "id", "steep"), ("whole", ("whalf", "wid", "wsteep")))
        self.assertEqual(caught(shop.machine, "whole"), ("LimitReached", 9))
        self.assertEqual((shop.cached(), shop.computations()), ([], 0))
        shop.machine("wid")
        self.check(shop, ("LimitReached", 9))
        self.assertEqual((shop.cached(), shop.computations()), (["wid"], 1))


class SlackTest(unittest.TestCase):
    def test_slack_above_zero(self):
        shop = shop_of({"widen": ("id", "bin", "wide"), "clips": ("clip", "wide", "bin")},
                       ("whole", ("widen", "clips")), ("twice", ("whole", "whole")))
        self.assertEqual([shop.delay("whole"), shop.slack("whole")], [1, 1])
        self.assertEqual([shop.delay("twice"), shop.slack("twice")], [2, 2])
        self.assertEqual([shop.slack("widen"), shop.slack("clips")], [0, 0])

    def test_delays_below_the_least_one(self):
        shop = shop_of(plain_writers("half", "zero"), ("six", ("whalf",) * 6), ("seven", ("six", "whalf")))
        self.assertEqual([shop.delay("six"), shop.slack("six")], [-6, 0])
        self.assertEqual([shop.delay("seven"), shop.slack("seven")], [-7, 0])
        self.assertEqual([shop.delay("wzero"), shop.slack("wzero")], [-6, 0])

    def test_errors_of_the_least_delay_keep_the_machine(self):
        shop = shop_of(plain_writers("some", "more", "half"), ("whole", ("wsome", "wmore")),
                       ("lower", ("whole", "whalf", "whalf")))
        self.assertEqual(caught(shop.slack, "whole"), ("LimitReached", 400))
        self.assertEqual((shop.cached(), shop.computations()), (["whole", "wmore", "wsome"], 3))
        self.assertEqual(shop.delay("whole"), -5)
        # Below -6 the least delay is not asked for.
        self.assertEqual([shop.delay("lower"), shop.slack("lower")], [-7, 0])

    def test_at_the_least_delay_it_is_asked_for(self):
        shop = shop_of(plain_writers("little", "more"), ("whole", ("wlittle", "wmore")))
        self.assertEqual((shop.delay("whole"), caught(shop.slack, "whole")), (-6, ("LimitReached", 400)))
        self.assertEqual((shop.cached(), shop.computations()), (["whole", "wlittle", "wmore"], 3))

    def test_delays_above_the_greatest_one(self):
        shop = shop_of(plain_writers("twice"), ("six", ("wtwice",) * 6), ("twelve", ("six", "six")))
        self.assertEqual((shop.delay("twelve"), caught(shop.slack, "twelve")), (12, ("LimitReached", 9)))
        self.assertEqual(shop.cached(), ["six", "twelve", "wtwice"])
        self.assertEqual(shop.slack("six"), 0)


class CacheTest(unittest.TestCase):
    def setUp(self):
        self.shop = shop_with()

    def state(self):
        return (self.shop.cached(), self.shop.computations())

    def test_what_requests_cache(self):
        self.assertEqual(self.state(), ([], 0))
        self.shop.function_of("long")
        self.assertEqual(self.state(), ([], 0))
        self.shop.machine("slow")
        self.assertEqual(self.state(), (["slow"], 1))
        self.shop.machine("both")
        self.assertEqual(self.state(), (["both", "slow"], 2))
        self.shop.machine("long")
        self.assertEqual(self.state(), (["back", "both", "long", "slow", "trip", "up"], 6))

    def test_every_request(self):
        for call in ("machine", "delay", "slack", "start_run"):
            shop = shop_with()
            getattr(shop, call)("trip")
            self.assertEqual((shop.cached(), shop.computations()), (["back", "trip", "up"], 3))
            for name in ("trip", "up", "back"):
                getattr(shop, call)(name)
            self.assertEqual((shop.cached(), shop.computations()), (["back", "trip", "up"], 3))

    def test_the_answers_stay_the_same(self):
        before = self.shop.machine("long")
        for _ in range(3):
            self.assertEqual(self.shop.machine("long"), before)
            self.assertEqual(self.shop.machine("long"), shop_with().machine("long"))
        self.assertEqual(self.shop.computations(), 6)

    def test_steps_that_change_nothing_that_is_cached(self):
        self.shop.machine("long")
        before = self.state()
        self.shop.define("new", ("function", "half(x)"))
        self.shop.redefine("bits", ("set", 2, (0, 1, 2)))
        self.shop.delete("new")
        self.shop.undo()
        self.shop.redo()
        self.shop.redefine("half", ("function", "1/2*x"))
        self.shop.redefine("bin", ("set", 2, [1, -1, 0]))
        self.shop.undo()
        self.assertEqual(self.state(), before)

    def test_each_item_drops_what_depends_on_it(self):
        new = {"bin": ("set", 2, (-1, 0, 1, 2)), "half": ("function", "1/4*x"), "clip": ("function", "1/2*x"),
               "near": ("function", "0"), "slow": ("writer", "near", "bin", "bin"),
               "up": ("writer", "half", "bin", "wide"), "back": ("writer", "half", "wide", "bin"),
               "both": ("pipe", ("slow",)), "trip": ("pipe", ("slow",)), "wide": ("set", 2, (-3, -2, -1, 0, 1, 2, 3))}
        kept = {"bin": [], "half": ["back"], "clip": ["both", "slow"], "near": ["back", "both", "slow"],
                "slow": ["back", "trip", "up"], "up": ["back", "both", "slow"], "back": ["both", "slow", "up"],
                "both": ["back", "slow", "trip", "up"], "trip": ["back", "both", "slow", "up"],
                "wide": ["both", "slow"], "long": ["back", "both", "slow", "trip", "up"]}
        for name, item in {**new, "long": ("pipe", ("both",))}.items():
            with self.subTest(name):
                shop = shop_with()
                shop.machine("long")
                shop.redefine(name, item)
                self.assertEqual((shop.cached(), shop.computations()), (kept[name], 6))
                shop.undo()
                self.assertEqual(shop.cached(), kept[name])
                shop.machine("long")
                self.assertEqual((len(shop.cached()), shop.computations()), (6, 12 - len(kept[name])))
                shop.redo()
                self.assertEqual(shop.cached(), kept[name])

    def test_a_new_machine_for_a_new_item(self):
        before = self.shop.machine("both")
        self.shop.redefine("half", ("function", "1/4*x"))
        after = self.shop.machine("both")
        self.assertEqual([before.delay(), after.delay()], [-2, -4])
        self.shop.undo()
        self.assertEqual(self.shop.machine("both"), before)
        self.assertEqual(self.shop.computations(), 6)

    def test_delete_undo_and_redo(self):
        self.shop.machine("both")
        self.shop.delete("long")
        self.assertEqual(self.state(), (["both", "slow"], 2))
        self.shop.delete("both")
        self.assertEqual(self.state(), (["slow"], 2))
        self.shop.undo()
        self.assertEqual(self.state(), (["slow"], 2))
        self.shop.machine("both")
        self.assertEqual(self.state(), (["both", "slow"], 3))
        self.shop.redo()
        self.assertEqual(self.state(), (["slow"], 3))
        while "slow" in self.shop.names():
            self.assertEqual(self.state(), (["slow"], 3))
            self.shop.undo()
        self.assertEqual(self.state(), ([], 3))

    def test_undo_of_a_definition(self):
        self.shop.machine("long")
        self.shop.undo()
        self.assertEqual(self.shop.cached(), ["back", "both", "slow", "trip", "up"])
        self.shop.redo()
        self.assertEqual(self.shop.cached(), ["back", "both", "slow", "trip", "up"])
        self.shop.machine("long")
        self.assertEqual(self.shop.computations(), 7)

    def test_batches(self):
        self.shop.machine("long")
        full = self.shop.cached()
        # Changed and put back, also by deleting and defining again: nothing differs afterwards.
        self.shop.batch([("redefine", "half", ("function", "x")), ("redefine", "half", ("function", "1/2*x"))])
        self.shop.batch([("delete", "long"), ("delete", "both"), ("define", "both", ("pipe", ["slow", "slow"])),
                         ("define", "long", ("pipe", ("both", "trip")))])
        self.assertEqual(self.state(), (full, 6))
        self.shop.undo()
        self.assertEqual(self.state(), (full, 6))
        self.shop.batch([("redefine", "half", ("function", "x")), ("redefine", "clip", ("function", "1/2*x"))])
        self.assertEqual(self.state(), ([], 6))
        self.shop.undo()
        self.assertEqual(self.state(), ([], 6))

    def test_steps_one_after_the_other_that_put_an_item_back(self):
        self.shop.machine("both")
        self.shop.redefine("half", ("function", "x"))
        self.shop.redefine("half", ("function", "1/2*x"))
        self.assertEqual(self.state(), ([], 2))

    def test_batches_and_commands_that_fail(self):
        self.shop.machine("long")
        before = self.state()
        for call, *rest in ((self.shop.batch, [("redefine", "half", ("function", "x")), ("delete", "nope")]),
                            (self.shop.batch, [("delete", "long"), ("delete",)]), (self.shop.batch, []),
                            (self.shop.redefine, "bin", ("set", 2, (0, 1))), (self.shop.delete, "bin"),
                            (self.shop.redo,), (self.shop.machine, "bin"), (self.shop.machine, "nope")):
            try:
                call(*rest)
            except (ValueError, LookupError):
                pass
            self.assertEqual(self.state(), before)

    def test_a_clone_has_a_cache_of_its_own(self):
        self.shop.machine("both")
        twin = self.shop.clone()
        self.assertEqual((twin.cached(), twin.computations()), (["both", "slow"], 2))
        twin.machine("trip")
        self.assertEqual((len(twin.cached()), twin.computations()), (5, 5))
        self.assertEqual(self.state(), (["both", "slow"], 2))
        self.shop.redefine("half", ("function", "x"))
        self.assertEqual(self.state(), ([], 2))
        self.assertEqual((len(twin.cached()), twin.computations()), (5, 5))
        self.assertEqual(twin.machine("both").delay(), -2)

    def test_a_run_keeps_its_machine(self):
        run = self.shop.start_run("both")
        run.feed(1)
        before, machine = run.written(), self.shop.machine("both")
        self.shop.redefine("half", ("function", "(0 - x)"))
        self.shop.batch([("delete", "long"), ("delete", "both")])
        self.assertEqual((run.read(), run.written()), ((1,), before))
        run.feed(-1)
        run.feed(0)
        self.assertEqual(run.written(), machine.run((1, -1, 0)))
        run.undo()
        self.assertEqual(run.written(), machine.run((1, -1)))
        self.assertEqual(run.clone(), run)

    def test_two_runs_of_one_name(self):
        one, other = self.shop.start_run("slow"), self.shop.start_run("slow")
        one.feed(1)
        self.assertEqual((other.read(), len(self.shop.start_run("slow"))), ((), 0))
        self.assertEqual(self.shop.computations(), 1)

    def test_all_items_of_the_example_have_machines(self):
        for name, item in EXAMPLE:
            if item[0] in ("writer", "pipe"):
                self.assertIsNone(judge(self.shop.machine(name), self.shop.function_of(name)))


if __name__ == "__main__":
    unittest.main()
