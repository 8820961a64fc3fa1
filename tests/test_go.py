"""go, point 3 of the document: ordinary steps, the edges it names, wrong texts."""

import contextlib
import io
import itertools
import unittest

from read_only import ReadOnly
from wrong_texts import WRONG_TEXTS

from reactnets.networks import check, empty, go

HIGHEST = 4294967295
ENZYME = "E + S <-> ES   # binding\nES -> E + P\n"


def go_of(text, amounts, steps):
    return go(list(text.encode("latin-1")), list(amounts), list(steps))


class GoCase(unittest.TestCase):

    def answers(self, text, amounts, steps, number, *left):
        with self.subTest(text=text, amounts=amounts, steps=steps):
            self.assertEqual(go_of(text, amounts, steps), [number] + list(left))


class WrongTexts(GoCase):

    AMOUNTS = ((), (0,), (7,), (HIGHEST,), (3, 0, HIGHEST), tuple(range(24)), tuple(range(25)),
               tuple(range(100)), (HIGHEST,) * 100)
    STEPS = ((), (0,), (1,), (24,), (255,), (0, 0, 255), (0,) * 300)

    def test_the_first_wrong_line_then_the_amounts(self):
        for text, line in WRONG_TEXTS:
            for amounts, steps in itertools.product(self.AMOUNTS, self.STEPS):
                self.answers(text, amounts, steps, -100 - line, *amounts)

    def test_they_are_those_of_check(self):
        for text, line in WRONG_TEXTS:
            self.assertEqual(check(list(text.encode("latin-1"))), [-100 - line])

    def test_the_right_lines_ahead_are_not_done(self):
        self.answers("A -> B\nA ->", (5, 5), (0, 0), -101, 5, 5)
        self.answers("A -> B\n\nA\nA ->", (5, 5), (0,), -102, 5, 5)


class NoSteps(GoCase):

    def test_a_text_with_reactions(self):
        self.answers("A -> B", (0, 0), (), 0, 0, 0)
        self.answers("A -> B", (4, HIGHEST), (), 0, 4, HIGHEST)
        self.answers(ENZYME, (1, 2, 3, 4), (), 0, 1, 2, 3, 4)

    def test_a_text_without_reactions(self):
        for text in ("", "\n", "   ", "# A -> B\n\n", " " * 2000):
            self.answers(text, (), (), 0)

    def test_24_substances(self):
        text = " + ".join("s%d" % k for k in range(24)) + " -> 0"
        self.answers(text, range(24), (), 0, *range(24))


class AllSteps(GoCase):

    def test_one_step(self):
        self.answers("A -> B", (1, 0), (0,), 1, 0, 1)
        self.answers("2H2 + O2 -> 2H2O\n", (5, 3, 1), (0,), 1, 3, 2, 3)

    def test_several_steps(self):
        self.answers(ENZYME, (1, 3, 0, 0), (0, 2, 0, 2), 4, 1, 1, 0, 2)
        self.answers("A -> B\nB -> C", (2, 0, 0), (0, 1, 0), 3, 0, 1, 1)

    def test_a_step_needs_what_the_one_before_gave(self):
        self.answers("A -> B\nB -> C\nC -> D", (1, 0, 0, 0), (0, 1, 2), 3, 0, 0, 0, 1)
        self.answers("A -> 3B\n3B -> C", (1, 0, 0), (0, 1), 2, 0, 0, 1)

    def test_the_last_of_a_substance(self):
        self.answers("2A -> B", (6, 0), (0, 0, 0), 3, 0, 3)
        self.answers("99A -> 0", (99,), (0,), 1, 0)
        self.answers("A + 2B -> C", (1, 2, 0), (0,), 1, 0, 0, 1)

    def test_0_on_the_left(self):
        self.answers("0 -> A", (0,), (0, 0, 0), 3, 3)
        self.answers("0 -> A + 2B\nA -> 0", (0, 0), (0, 1, 0), 3, 1, 4)

    def test_0_on_the_right(self):
        self.answers("A -> 0", (3,), (0, 0), 2, 1)
        self.answers("A + 2B -> 0", (1, 2), (0,), 1, 0, 0)

    def test_0_on_both_sides(self):
        self.answers("0 -> 0", (), (0, 0), 2)
        self.answers("0 <-> 0\nA -> 0", (HIGHEST,), (0, 1, 1), 3, HIGHEST)

    def test_0_both_ways(self):
        self.answers("0 <-> A", (0,), (0, 0, 1), 3, 1)
        self.answers("A <-> 0", (0,), (1, 1, 0), 3, 1)

    def test_there_and_back(self):
        self.answers("A <-> B", (1, 0), (0,), 1, 0, 1)
        self.answers("A <-> B", (0, 1), (1,), 1, 1, 0)
        self.answers("A <-> B", (1, 0), (0, 1, 0, 1), 4, 1, 0)
        self.answers("A <-> 2B + C", (5, 2, 1), (1, 0, 0), 3, 4, 4, 2)

    def test_reactions_behind_one_both_ways(self):
        self.answers("A <-> B\nB -> C\nC <-> A", (1, 0, 0), (0, 2, 3), 3, 1, 0, 0)
        self.answers("A <-> B\nB -> C\nC <-> A", (1, 0, 0), (4, 3), 2, 1, 0, 0)

    def test_a_substance_on_both_sides(self):
        self.answers("A -> A", (1,), (0, 0), 2, 1)
        self.answers("A + B -> A + C", (1, 2, 0), (0, 0), 2, 1, 0, 2)
        self.answers("X -> 2X", (1,), (0, 0, 0), 3, 4)
        self.answers("2X -> X", (4,), (0, 0, 0), 3, 1)

    def test_a_name_more_than_once_on_a_side(self):
        self.answers("A + A -> B + 3B + A", (2, 0), (0,), 1, 1, 4)
        self.answers("A + B + A -> 0", (4, 2), (0, 0), 2, 0, 0)

    def test_numbers_from_1_to_99(self):
        for many in (1, 2, 9, 10, 50, 98, 99):
            self.answers("%dA -> %d B" % (many, 100 - many), (100, 1), (0,), 1, 100 - many, 101 - many)

    def test_lines_that_say_nothing(self):
        self.answers("# C -> D\n\n  A -> B # -> 0\n   \nB -> 0", (2, 0), (0, 0, 1), 3, 0, 1)

    def test_amounts_are_as_substances_come_in_the_text(self):
        self.answers("C -> B + A\nB -> D", (1, 10, 100, 1000), (0,), 1, 0, 11, 101, 1000)
        self.answers("b -> a\nB -> A", (1, 2, 3, 4), (1,), 1, 1, 2, 2, 5)

    def test_the_last_of_24_substances(self):
        names = ["s%d" % k for k in range(24)]
        self.answers(" + ".join(names) + " -> 0", [9] * 23 + [1], (0,), 1, *[8] * 23 + [0])
        self.answers(" + ".join(names) + " -> 0", [9] * 23 + [0], (0,), 0, *[9] * 23 + [0])
        self.answers("0 -> " + " + ".join(names), [9] * 23 + [HIGHEST], (0,), -5, *[9] * 23 + [HIGHEST])

    def test_the_last_of_24_reactions(self):
        text = "A -> 0\n" * 23 + "A -> B"
        self.answers(text, (2, 0), (23, 0), 2, 0, 1)
        self.answers("A <-> B\n" * 12, (1, 0), (22, 23, 0), 3, 0, 1)

    def test_300_steps(self):
        self.answers("A -> B", (300, 0), (0,) * 300, 300, 0, 300)
        self.answers("A <-> B", (1, 0), (0, 1) * 150, 300, 1, 0)
        self.answers("0 -> 99A", (0,), (0,) * 300, 300, 29700)

    def test_2000_bytes(self):
        self.answers(("A <-> B\n" + "# " + "x" * 1000 + "\nC -> A").ljust(2000), (0, 1, 1), (1, 2), 2, 2, 0, 0)


class AStepThatLacksSomething(GoCase):

    def test_first(self):
        self.answers("A -> B", (0, 5), (0,), 0, 0, 5)
        self.answers("2A -> B\nB -> A", (1, 5), (0, 1), 0, 1, 5)

    def test_in_the_middle(self):
        self.answers("A -> B\nB -> C\n0 -> C", (1, 0, 0), (0, 0, 1, 2), 1, 0, 1, 0)
        self.answers(ENZYME, (1, 3, 0, 0), (0, 2, 2, 0, 2), 2, 1, 2, 0, 1)

    def test_last(self):
        self.answers("A -> B", (2, 0), (0, 0, 0), 2, 0, 2)
        self.answers("0 -> A\n3A -> B", (0, 0), (0, 0, 1), 2, 2, 0)
        self.answers("A -> B", (299, 0), (0,) * 300, 299, 0, 299)

    def test_what_stands_behind_it_is_not_done(self):
        self.answers("A -> B\n0 -> A", (0, 0), (0, 1, 0), 0, 0, 0)
        self.answers("A -> B\n0 -> A", (1, 0), (0, 0, 1, 1, 1), 1, 0, 1)

    def test_nothing_of_it_is_done(self):
        self.answers("A + B -> C", (5, 0, 0), (0,), 0, 5, 0, 0)
        self.answers("A + B -> C", (0, 5, 0), (0,), 0, 0, 5, 0)
        self.answers("A + 2B -> C + D", (9, 3, 0, 0), (0, 0), 1, 8, 1, 1, 1)

    def test_one_too_few(self):
        for many in (1, 2, 10, 99):
            text = "%dA -> B" % many
            self.answers(text, (many - 1, 0), (0,), 0, many - 1, 0)
            self.answers(text, (many, 0), (0,), 1, 0, 1)
            self.answers(text, (many * 2 - 1, 0), (0, 0), 1, many - 1, 1)

    def test_what_is_given_back_is_needed_too(self):
        self.answers("A -> A", (0,), (0,), 0, 0)
        self.answers("A -> 2A", (0,), (0, 0), 0, 0)
        self.answers("2A -> 3A", (1,), (0,), 0, 1)
        self.answers("A + B -> A + C", (0, 5, 5), (0,), 0, 0, 5, 5)
        self.answers("5A -> 5A", (4,), (0,), 0, 4)
        self.answers("5A -> 5A", (5,), (0,), 1, 5)

    def test_a_name_more_than_once_on_a_side(self):
        self.answers("A + A -> B", (1, 0), (0,), 0, 1, 0)
        self.answers("A + B + 2A -> 0", (2, 1), (0,), 0, 2, 1)

    def test_back(self):
        self.answers("A <-> B", (1, 0), (1, 0), 0, 1, 0)
        self.answers("A <-> B", (1, 0), (0, 0), 1, 0, 1)

    def test_ahead_of_an_amount_that_would_go_above(self):
        # What isn't done brings no amount above anything.
        self.answers("A -> B", (0, HIGHEST), (0,), 0, 0, HIGHEST)
        self.answers("A -> B\n0 -> B", (0, HIGHEST), (0, 1), 0, 0, HIGHEST)


class AStepThatIsNoReaction(GoCase):

    def test_alone(self):
        for step in (1, 2, 24, 100, 255):
            self.answers("A -> B", (3, 4), (step,), -5, 3, 4)

    def test_first(self):
        self.answers("A -> B", (3, 4), (1, 0, 0), -5, 3, 4)

    def test_in_the_middle(self):
        self.answers("A -> B", (3, 4), (0, 1, 0), -5, 3, 4)

    def test_last(self):
        self.answers("A -> B", (3, 4), (0, 0, 1), -5, 3, 4)
        self.answers("A -> B", (300, 0), (0,) * 299 + (255,), -5, 300, 0)

    def test_behind_a_step_that_lacks_something(self):
        self.answers("A -> B", (0, 4), (0, 1), -5, 0, 4)
        self.answers("A -> B", (1, 4), (0, 0, 1), -5, 1, 4)
        self.answers("A -> B", (1, 4), (0, 0, 0, 255, 0), -5, 1, 4)

    def test_behind_an_amount_that_would_go_above(self):
        self.answers("A -> B", (3, HIGHEST - 1), (0, 0, 1), -5, 3, HIGHEST - 1)

    def test_the_first_number_without_a_reaction(self):
        self.answers("A <-> B", (3, 4), (2,), -5, 3, 4)
        self.answers("A <-> B", (3, 4), (1,), 1, 4, 3)
        self.answers("A -> B\n" * 24, (3, 4), (24,), -5, 3, 4)
        self.answers("A -> B\n" * 24, (3, 4), (23,), 1, 2, 5)
        self.answers("# none\n\nA -> B", (3, 4), (1,), -5, 3, 4)

    def test_a_text_without_reactions(self):
        for text in ("", "\n", "# A -> B"):
            for steps in ((0,), (255,), (0,) * 300):
                self.answers(text, (), steps, -5)


class TheHighestAmount(GoCase):

    def test_just_reached(self):
        self.answers("0 -> A", (HIGHEST - 1,), (0,), 1, HIGHEST)
        self.answers("A -> 99B", (1, HIGHEST - 99), (0,), 1, 0, HIGHEST)
        self.answers("A -> 2A", (HIGHEST - 1,), (0,), 1, HIGHEST)

    def test_gone_above_at_the_first_step(self):
        self.answers("0 -> A", (HIGHEST,), (0,), -5, HIGHEST)
        self.answers("A -> 99B", (1, HIGHEST - 98), (0,), -5, 1, HIGHEST - 98)
        self.answers("A -> 2A", (HIGHEST,), (0,), -5, HIGHEST)

    def test_gone_above_behind_other_steps(self):
        self.answers("0 -> A", (HIGHEST - 2,), (0, 0, 0), -5, HIGHEST)
        self.answers("A -> B\n0 -> 2B", (5, HIGHEST - 3), (0, 1, 0, 0), -5, 4, HIGHEST)
        self.answers("A -> B\n0 -> 2B", (5, HIGHEST - 2), (0, 1, 0), -5, 4, HIGHEST - 1)

    def test_what_stands_behind_is_not_done(self):
        self.answers("0 -> A\nA -> 0", (HIGHEST,), (0, 1), -5, HIGHEST)
        self.answers("0 -> A\nA -> 0", (HIGHEST - 1,), (0, 0, 1, 1), -5, HIGHEST)

    def test_nothing_of_the_step_is_done(self):
        self.answers("A -> B + C", (5, 0, HIGHEST), (0,), -5, 5, 0, HIGHEST)
        self.answers("A -> B + C", (5, HIGHEST, 0), (0,), -5, 5, HIGHEST, 0)
        self.answers("A + B -> 2B", (5, HIGHEST), (0,), -5, 5, HIGHEST)

    def test_is_kept_by_what_gives_back_as_much(self):
        self.answers("A -> A", (HIGHEST,), (0, 0), 2, HIGHEST)
        self.answers("99A -> 99A", (HIGHEST,), (0,), 1, HIGHEST)
        self.answers("A + B -> A", (HIGHEST, 1), (0,), 1, HIGHEST, 0)

    def test_is_taken_from(self):
        self.answers("A -> B", (HIGHEST, 0), (0,), 1, HIGHEST - 1, 1)
        self.answers("A <-> B", (HIGHEST, 0), (0, 1), 2, HIGHEST, 0)

    def test_of_one_substance_bars_no_other(self):
        self.answers("A -> B\nC -> 0", (1, 0, HIGHEST), (0,), 1, 0, 1, HIGHEST)


class NothingIsKeptOrChanged(GoCase):

    CALLS = (
        ("", (), ()), ("", (), (0,)), ("A -> B", (2, 0), (0, 0)), ("A -> B", (1, 0), (0, 0, 0)),
        ("A -> B", (2, 0), (0, 1)), ("A <-> B", (2, HIGHEST), (1, 0, 0)), ("0 -> A", (HIGHEST - 1,), (0, 0)),
        ("A -> B\nA ->", (1, 2, 3), (0,)), ("A", (), ()), (ENZYME, (1, 3, 0, 0), (0, 2, 0, 1)), ("A -> B", (5, 6), ()),
    )

    def test_the_lists_handed_in_stay_as_they_were(self):
        for text, amounts, steps in self.CALLS:
            handed = [list(text.encode("latin-1")), list(amounts), list(steps)]
            go(*handed)
            self.assertEqual(handed, [list(text.encode("latin-1")), list(amounts), list(steps)])

    def test_the_lists_are_not_changed_for_a_while_either(self):
        for text, amounts, steps in self.CALLS:
            answer = go(ReadOnly(text.encode("latin-1")), ReadOnly(amounts), ReadOnly(steps))
            self.assertEqual(answer, go_of(text, amounts, steps))

    def test_one_list_may_be_handed_in_twice(self):
        handed = [0, 0]
        self.assertEqual(go(list(b"0 -> A + B"), handed, handed), [2, 2, 2])
        self.assertEqual(handed, [0, 0])

    def test_two_calls_answer_as_each_alone(self):
        alone = (
            (("", (), ()), [0]), (("", (), (0,)), [-5]), (("A -> B", (2, 0), (0, 0)), [2, 0, 2]),
            (("B -> A", (1, 0), (0, 0)), [1, 0, 1]), (("A -> B", (2, 0), (0, 1)), [-5, 2, 0]),
            (("0 -> A", (HIGHEST - 1,), (0, 0)), [-5, HIGHEST]), (("A -> B\nA ->", (1, 2, 3), (0,)), [-101, 1, 2, 3]),
        )
        for first, second in itertools.product(alone, repeat=2):
            self.answers(*first[0], *first[1])
            self.answers(*second[0], *second[1])

    def test_between_calls_of_others(self):
        text = list(ENZYME.encode())
        for k in range(2):
            self.assertEqual(check(text), [0, 4, 3, 3])
            self.assertEqual(go(text, [1, 1, 0, 0], [0, 2]), [2, 1, 0, 0, 1])
            self.assertEqual(empty(9, text), [2, 5, 6])
            self.assertEqual(go(list(b"A"), [1], [0]), [-100, 1])

    def test_each_answer_is_a_list_of_its_own(self):
        for text, amounts, steps in self.CALLS:
            handed = list(amounts)
            answer = go(list(text.encode("latin-1")), handed, list(steps))
            kept = list(answer)
            answer.append(7)
            self.assertEqual(handed, list(amounts))
            self.answers(text, amounts, steps, *kept)

    def test_what_is_given_back(self):
        for text, amounts, steps in self.CALLS:
            answer = go_of(text, amounts, steps)
            self.assertIs(type(answer), list)
            for number in answer:
                self.assertIs(type(number), int)

    def test_nothing_is_printed(self):
        printed = io.StringIO()
        with contextlib.redirect_stdout(printed), contextlib.redirect_stderr(printed):
            for text, amounts, steps in self.CALLS:
                go_of(text, amounts, steps)
        self.assertEqual(printed.getvalue(), "")


if __name__ == "__main__":
    unittest.main()
