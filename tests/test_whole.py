"""What the document says over the whole program, for all four calls."""

import contextlib
import inspect
import io
import itertools
import pathlib
import random
import subprocess
import sys
import unittest

from read_only import ReadOnly

import reactnets
from reactnets import networks

ROOT = pathlib.Path(__file__).resolve().parent.parent
HIGHEST = 4294967295
LAST_NUMBER = 18446744073709551615
ENZYME = "E + S <-> ES   # binding\nES -> E + P\n"
WRONG = "A -> B\n\nA ->\n"

# Each call with what it answers as the only one.
CALLS = (
    ("check", ("",), [0, 0, 0, 0]),
    ("check", (ENZYME,), [0, 4, 3, 3]),
    ("check", ("0 -> A",), [0, 1, 1, 2]),
    ("check", (WRONG,), [-102]),
    ("empty", (9, ENZYME), [2, 5, 6]),
    ("empty", (1, ENZYME), [2, 5]),
    ("empty", (0, "A -> B"), [1]),
    ("empty", (1, "B -> A\nA -> 0"), [1, 1]),
    ("empty", (-1, WRONG), [-2]),
    ("empty", (1, WRONG), [-102]),
    ("go", ("", (), ()), [0]),
    ("go", ("", (), (0,)), [-5]),
    ("go", (ENZYME, (1, 3, 0, 0), (0, 2, 0, 2)), [4, 1, 1, 0, 2]),
    ("go", (ENZYME, (1, 1, 0, 0), (0, 2, 0, 2)), [2, 1, 0, 0, 1]),
    ("go", ("A -> B", (1, 0), (0,)), [1, 0, 1]),
    ("go", ("A -> B", (1, 0), (1,)), [-5, 1, 0]),
    ("go", ("0 -> A", (HIGHEST,), (0,)), [-5, HIGHEST]),
    ("go", (WRONG, (1, 0, 1), (1,)), [-102, 1, 0, 1]),
    ("draw", (0, "", (), ()), [-5]),
    ("draw", (0, "A -> B", (1, 0), (1,)), [0]),
    ("draw", (0, "A -> B", (0, 1), (1,)), [-5]),
    ("draw", (LAST_NUMBER, ENZYME, (1, 1, 1, 0), (1, 0, 1)), [2]),
    ("draw", (LAST_NUMBER, "A -> B\nB -> A", (1, 1), (1, 1)), [1]),
    ("draw", (0, "A -> B", (1001, 0), (1,)), [-2]),
    ("draw", (0, WRONG, (1001,), (1000001,)), [-102]),
)

# Each as long as it may be.
LONGEST_CALLS = (
    ("check", ("\n" * 2000,)),
    ("check", (" " * 1990 + "A -> B",)),
    ("check", ("A+" * 90 + "A->" + "B+" * 90 + "B",)),
    ("check", ("a" * 2000,)),
    ("check", ("-" * 2000,)),
    ("check", ("+" * 2000,)),
    ("check", ("1" * 2000,)),
    ("empty", (9, "+".join("s%d" % k for k in range(8)) + "->0\n" + "#" * 1950)),
    ("empty", (9, "\n" * 1990 + "A -> B")),
    ("go", ("0 -> A", (0,), (0,) * 300)),
    ("go", ("a" * 2000, (1,) * 100, (0,) * 300)),
    ("draw", (5, ("+".join("99%c" % (97 + k) for k in range(24)) + "->0\n") * 15, (1000,) * 24, (1000000,) * 15)),
    ("draw", (5, "a" * 2000, (1,) * 100, (1,) * 100)),
)

SEEN = []
WATCHING = []


# Python tells a hook of whatever is opened, imported, started or asked of the system.
def watch(event, values):
    if WATCHING:
        SEEN.append(event)


sys.addaudithook(watch)


def handed(values, kind=list):
    """The values of a call, each list of its own."""
    made = []
    for value in values:
        if isinstance(value, str):
            made.append(kind(value.encode("latin-1")))
        elif isinstance(value, tuple):
            made.append(kind(value))
        else:
            made.append(value)
    return made


def call(name, values, kind=list):
    return getattr(networks, name)(*handed(values, kind))


class Interface(unittest.TestCase):

    def test_names_and_arguments(self):
        wanted = {"check": ["text"], "empty": ["most", "text"], "go": ["text", "amounts", "steps"],
                  "draw": ["number", "text", "amounts", "rates"]}
        for name, arguments in wanted.items():
            given = inspect.signature(getattr(networks, name)).parameters.values()
            self.assertEqual([one.name for one in given], arguments)
            self.assertEqual({one.kind for one in given}, {inspect.Parameter.POSITIONAL_OR_KEYWORD})
            self.assertEqual({one.default for one in given}, {inspect.Parameter.empty})

    def test_all_calls_are_here(self):
        self.assertEqual(sorted({name for name, values, answer in CALLS}), ["check", "draw", "empty", "go"])

    def test_a_list_of_whole_numbers_is_given_back(self):
        for name, values, answer in CALLS:
            given = call(name, values)
            self.assertEqual(given, answer, (name, values))
            self.assertIs(type(given), list)
            # True and False are equal to 1 and 0, but no whole numbers here.
            self.assertEqual({type(number) for number in given}, {int}, (name, values))

    def test_a_refusal_is_alone_but_that_of_go(self):
        for name, values, answer in CALLS:
            if answer[0] < 0:
                self.assertEqual(len(call(name, values)), 1 + (len(values[1]) if name == "go" else 0))


class NothingIsKept(unittest.TestCase):

    def same(self, name, values, answer):
        given = call(name, values)
        if given != answer:
            self.assertEqual(given, answer, (name, values))

    def test_any_two_calls(self):
        for first, second in itertools.product(CALLS, repeat=2):
            self.same(*first)
            self.same(*second)

    def test_calls_in_many_orders(self):
        source = random.Random(6)
        for k in range(50):
            for one in source.sample(CALLS, len(CALLS)):
                self.same(*one)

    def test_the_lists_of_one_call_serve_the_next(self):
        text = list(ENZYME.encode())
        amounts = [1, 3, 5, 0]
        numbers = [0, 2, 1]
        for k in range(3):
            self.assertEqual(networks.go(text, amounts, numbers), [3, 2, 3, 4, 1])
            self.assertEqual(networks.draw(LAST_NUMBER, text, amounts, numbers), [2])
            self.assertEqual(networks.check(text), [0, 4, 3, 3])
            self.assertEqual(networks.empty(2, text), [2, 5, 6])
        self.assertEqual((text, amounts, numbers), (list(ENZYME.encode()), [1, 3, 5, 0], [0, 2, 1]))

    def test_an_answer_that_is_changed(self):
        for name, values, answer in CALLS:
            lists = handed(values)
            given = getattr(networks, name)(*lists)
            given[0] = 77
            given.append(78)
            self.assertEqual(lists, handed(values), (name, values))
            self.same(name, values, answer)

    def test_what_the_package_holds_stays_as_it_was(self):
        held = {module: {name: repr(value) for name, value in vars(module).items() if name != "__builtins__"}
                for module in (reactnets, networks)}
        for name, values, answer in CALLS:
            call(name, values)
        for module in held:
            now = {name: repr(value) for name, value in vars(module).items() if name != "__builtins__"}
            self.assertEqual(now, held[module])
        for value in vars(networks).values():
            if inspect.isfunction(value):
                self.assertEqual((value.__defaults__, value.__closure__, vars(value)), (None, None, {}), value)


class NothingIsChanged(unittest.TestCase):

    def test_not_for_a_while_either(self):
        for name, values, answer in CALLS:
            self.assertEqual(call(name, values, ReadOnly), answer, (name, values))


class NothingElseIsDone(unittest.TestCase):

    def test_nothing_is_printed(self):
        printed = io.StringIO()
        with contextlib.redirect_stdout(printed), contextlib.redirect_stderr(printed):
            for name, values, answer in CALLS:
                call(name, values)
        self.assertEqual(printed.getvalue(), "")

    def test_nothing_is_read_or_imported(self):
        made = [(getattr(networks, name), handed(values)) for name, values, answer in CALLS]
        SEEN.clear()
        WATCHING.append(True)
        for function, lists in made:
            function(*lists)
        WATCHING.clear()
        self.assertEqual(SEEN, [])

    def test_the_watch_is_kept(self):
        SEEN.clear()
        WATCHING.append(True)
        open(__file__).close()
        WATCHING.clear()
        self.assertIn("open", SEEN)

    def test_the_package_brings_nothing_else_with_it(self):
        program = ("import sys\nbefore = set(sys.modules)\nimport reactnets.networks\n"
                   "print(sorted(set(sys.modules) - before))")
        ran = subprocess.run([sys.executable, "-c", program], cwd=ROOT, capture_output=True, text=True, timeout=60)
        self.assertEqual((ran.stdout, ran.stderr), ("['reactnets', 'reactnets.networks']\n", ""))

    def test_long_input_is_gone_through_by_loops(self):
        made = [(getattr(networks, name), handed(values)) for name, values in LONGEST_CALLS]
        limit = sys.getrecursionlimit()
        sys.setrecursionlimit(len(inspect.stack()) + 40)
        try:
            for function, lists in made:
                function(*lists)
        finally:
            sys.setrecursionlimit(limit)

    def test_the_longest_are_allowed(self):
        for name, values in LONGEST_CALLS:
            for value in handed(values):
                if isinstance(value, list):
                    self.assertLessEqual(len(value), 2000, name)


if __name__ == "__main__":
    unittest.main()
