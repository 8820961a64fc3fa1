"""empty, point 2 of the document: ordinary texts, the edges it names, wrong texts."""

import contextlib
import io
import itertools
import unittest

from read_only import ReadOnly
from wrong_texts import WRONG_TEXTS

from reactnets.networks import check, empty

HIGHEST_MOST = 2147483647
LOWEST_MOST = -2147483648
EIGHT = ["s%d" % k for k in range(8)]


def empty_of(most, text):
    return empty(most, list(text.encode("latin-1")))


class EmptyCase(unittest.TestCase):

    def sets(self, text, *numbers):
        with self.subTest(text=text):
            self.assertEqual(empty_of(HIGHEST_MOST, text), [len(numbers)] + list(numbers))

    def answers(self, most, text, answer):
        with self.subTest(most=most, text=text):
            self.assertEqual(empty_of(most, text), answer)


class OrdinaryTexts(EmptyCase):

    def test_one_reaction(self):
        self.sets("A -> B", 0b01)
        self.sets("2H2 + O2 -> 2H2O\n", 0b001, 0b010)

    def test_an_enzyme(self):
        self.sets("E + S <-> ES\nES -> E + P\n", 0b0101, 0b0110)

    def test_a_chain(self):
        self.sets("A -> B\nB -> C\nC -> D", 0b0001)

    def test_a_ring(self):
        self.sets("A -> B\nB -> C\nC -> A", 0b111)

    def test_two_rings_apart(self):
        self.sets("A -> B\nC -> D\nB -> A\nD -> C", 0b0011, 0b1100)

    def test_hunters_and_hunted(self):
        self.sets("X -> 2X\nX + Y -> 2Y\nY -> 0", 0b01, 0b10)

    def test_one_taken_of_several_is_enough(self):
        self.sets("A + B -> C\nC -> A + B", 0b101, 0b110)
        self.sets("A + B + C -> D\nD -> A + B + C", 0b1001, 0b1010, 0b1100)

    def test_each_reaction_that_gives_one_needs_to_take_one(self):
        self.sets("A -> B\nB -> A", 0b11)
        self.sets("A -> B\nB -> A\nC -> A", 0b100)
        self.sets("C -> A\nA -> B\nB -> A", 0b001)
        self.sets("A -> B\nC -> D + B\nB -> A", 0b0100)

    def test_a_reaction_told_again_changes_nothing(self):
        self.sets("A -> B\nA -> B\nB -> A", 0b11)

    def test_a_substance_that_nothing_gives(self):
        self.sets("A + B -> C\nC -> B\nD -> 0", 0b0001, 0b0110, 0b1000)

    def test_how_many_are_taken_and_given_says_nothing(self):
        for text in ("99A -> B\n98B -> A", "A -> 99B\nB -> 99A", "A + A -> B + B\n50B + 49B -> 3A"):
            self.sets(text, 0b11)

    def test_lines_that_say_nothing(self):
        self.sets("# C -> D\n\n  A -> B # + C -> 0\n   \nB -> A", 0b11)

    def test_what_is_given_back(self):
        for most, text in ((-1, "A -> B"), (0, "A -> B"), (5, "A -> B"), (5, ""), (5, "A")):
            answer = empty_of(most, text)
            self.assertIs(type(answer), list)
            for number in answer:
                self.assertIs(type(number), int)


class NumbersOfSubstances(EmptyCase):

    def test_as_they_come_in_the_text(self):
        self.sets("B -> A", 0b01)
        self.sets("C -> D\nB -> C\nA -> B", 0b1000)
        self.sets("z -> y\ny -> z\nx -> y", 0b100)

    def test_as_they_come_on_a_side(self):
        self.sets("0 -> B + A\nC -> A", 0b100)
        self.sets("C + A + B -> D\nB -> A", 0b001, 0b100)

    def test_by_upper_and_lower_letters(self):
        self.sets("A -> a\nb -> A", 0b100)


class WithoutSets(EmptyCase):

    def test_no_bytes(self):
        self.assertEqual(empty(0, []), [0])
        self.assertEqual(empty(1, []), [0])
        self.assertEqual(empty(HIGHEST_MOST, []), [0])

    def test_no_reactions(self):
        for text in (" ", "\n", "\n\n\n", "# A -> B", "  # A\n\n   \n#\n", " " * 2000):
            self.sets(text)

    def test_reactions_without_substances(self):
        self.sets("0 -> 0")
        self.sets("0 <-> 0\n0 -> 0")

    def test_the_empty_set_is_not_told(self):
        self.sets("0 -> A")
        self.sets("A -> B", 0b01)


class NothingOnASide(EmptyCase):

    def test_0_on_the_left(self):
        self.sets("0 -> A")
        self.sets("0 -> A + B")
        self.sets("0 -> A\nA -> B\nB -> C")

    def test_0_on_the_left_bars_every_set_with_what_is_given(self):
        self.sets("A <-> B\n0 -> B")
        self.sets("A -> B\n0 -> B", 0b01)
        self.sets("A + B -> C\nC -> A + B\n0 -> A", 0b110)
        self.sets("A + B -> C\nC -> A + B\n0 -> C")

    def test_0_on_the_left_of_others(self):
        self.sets("0 -> A\nA + B -> 2B", 0b10)
        self.sets("0 -> A\nB <-> C", 0b110)

    def test_0_on_the_right(self):
        self.sets("A -> 0", 0b1)
        self.sets("A + B -> 0", 0b01, 0b10)
        self.sets("A <-> B\nA -> 0\nB -> 0", 0b11)

    def test_0_both_ways(self):
        self.sets("0 <-> A")
        self.sets("A <-> 0")
        self.sets("A + B <-> 0")
        self.sets("0 <-> A\nB -> A", 0b10)


class OnBothSides(EmptyCase):

    def test_one_that_stays(self):
        self.sets("A -> A", 0b1)
        self.sets("A + B -> A", 0b01, 0b10)
        self.sets("A -> A + B", 0b01)

    def test_one_that_becomes_more_or_less(self):
        self.sets("A -> 2A", 0b1)
        self.sets("2A -> A", 0b1)
        self.sets("A + B -> 2B\nB -> A", 0b10)

    def test_one_that_stays_is_taken_and_given(self):
        # {A, C} stays empty because the first reaction takes A, though it gives A back.
        self.sets("A + B -> A + C\nC -> A", 0b010, 0b101)
        self.sets("A + B <-> A + C", 0b001, 0b110)


class BothWays(EmptyCase):

    def test_is_two_reactions(self):
        self.sets("A <-> B", 0b11)
        self.sets("A <-> B + C", 0b011, 0b101)
        self.sets("A <-> A", 0b1)

    def test_is_as_if_both_were_told(self):
        for there, back in (("A", "B"), ("A + B", "C"), ("0", "A"), ("A + 2B", "B + C"), ("A", "0")):
            apart = "%s -> %s\n%s -> %s\nC -> D" % (there, back, back, there)
            together = "%s <-> %s\nC -> D" % (there, back)
            self.assertEqual(empty_of(99, together), empty_of(99, apart))

    def test_a_chain_of_them(self):
        self.sets("A <-> B\nB <-> C\nC <-> D", 0b1111)


class OnlyTheLeast(EmptyCase):

    def test_one_within_another(self):
        # {A}, {A, B} and {A, B, C} would all stay empty.
        self.sets("A -> B\nB -> C", 0b001)
        # Here {B}, {A, B}.
        self.sets("A + B -> B\nB -> A", 0b10)

    def test_one_with_a_lesser_of_high_number(self):
        # {A, B, C} holds {C}; {A, B} doesn't stay empty.
        self.sets("A -> B\nB + C -> A\nC -> A", 0b100)

    def test_a_common_part_is_no_bar(self):
        self.sets("A + B <-> C", 0b101, 0b110)
        self.sets("H + A + B <-> C + H", 0b0001, 0b1010, 0b1100)

    def test_each_of_many_alone(self):
        for count in range(1, 9):
            self.sets(" + ".join(EIGHT[:count]) + " -> 0", *[1 << k for k in range(count)])

    def test_none_holds_another(self):
        text = "A + B -> C + D\nC -> A + E\nD + E -> B\nE <-> F\nF + A -> G\nG -> H + D\nH -> C"
        told = empty_of(HIGHEST_MOST, text)[1:]
        self.assertGreater(len(told), 1)
        for one, other in itertools.permutations(told, 2):
            self.assertNotEqual(one & other, one)


class Order(EmptyCase):

    def test_not_by_how_many_a_set_holds(self):
        self.sets("A <-> B\nC -> 0", 0b011, 0b100)
        self.sets("A -> B\nB -> C\nC -> A\nD -> 0\nE <-> F", 0b000111, 0b001000, 0b110000)

    def test_not_by_the_lowest_substance(self):
        self.sets("A + B -> C\nC -> A", 0b010, 0b101)
        self.sets("A -> 0\nB + C + D <-> B + E", 0b00001, 0b00010, 0b10100, 0b11000)

    def test_one_substance(self):
        self.sets("A -> 0", 0b1)
        self.sets("0 -> A")

    def test_eight_substances(self):
        text = "s0 + s1 + s2 + s3 + s4 + s5 + s6 + s7 -> s7\ns7 -> s0 + s1\ns6 <-> s2\ns3 <-> s5"
        self.sets(text, 0b00010000, 0b00101000, 0b01000100, 0b10000000)


class EightSubstances(EmptyCase):

    def test_all_at_once(self):
        ring = ["%s -> %s" % (EIGHT[k], EIGHT[(k + 1) % 8]) for k in range(8)]
        self.sets("\n".join(ring), 255)
        self.sets("\n".join(reversed(ring)), 255)
        chain = ["%s <-> %s" % (EIGHT[k], EIGHT[k + 1]) for k in range(7)]
        self.sets("\n".join(chain), 255)

    def test_the_last_alone(self):
        lines = [" + ".join(EIGHT) + " -> 0"] + ["0 -> " + name for name in EIGHT[:7]]
        self.sets("\n".join(lines), 128)

    def test_none(self):
        self.sets("0 -> " + " + ".join(EIGHT))
        self.sets("\n".join("0 -> " + name for name in EIGHT))

    def test_one_of_each_group(self):
        groups = ((0, 1, 2), (3, 4, 5), (6, 7))
        everything = " + ".join(EIGHT)
        lines = [" + ".join(EIGHT[k] for k in group) + " -> " + everything for group in groups]
        chosen = sorted(sum(1 << k for k in picks) for picks in itertools.product(*groups))
        self.assertEqual(len(chosen), 18)
        self.sets("\n".join(lines), *chosen)

    def test_names_of_16_bytes_and_24_reactions(self):
        names = ["x" * 15 + letter for letter in "abcdefgh"]
        lines = ["%s -> %s" % (names[k % 8], names[(k + 1) % 8]) for k in range(24)]
        self.sets("\n".join(lines), 255)

    def test_2000_bytes(self):
        self.sets(("A <-> B\n" + "# " + "x" * 1000 + "\nC -> A").ljust(2000), 0b100)


class Most(EmptyCase):

    TEXT = "A + B + C -> D\nD -> A"
    TOLD = [0b0010, 0b0100, 0b1001]

    def test_none(self):
        self.answers(0, self.TEXT, [3])
        self.answers(0, "0 -> A", [0])
        self.answers(0, "", [0])

    def test_fewer_than_there_are(self):
        self.answers(1, self.TEXT, [3] + self.TOLD[:1])
        self.answers(2, self.TEXT, [3] + self.TOLD[:2])

    def test_as_many_as_there_are(self):
        self.answers(3, self.TEXT, [3] + self.TOLD)

    def test_more_than_there_are(self):
        for most in (4, 5, 255, 256, 65536, HIGHEST_MOST):
            self.answers(most, self.TEXT, [3] + self.TOLD)
            self.answers(most, "0 -> A", [0])

    def test_each_of_eight(self):
        for most in range(12):
            self.answers(most, " + ".join(EIGHT) + " -> 0", [8] + [1, 2, 4, 8, 16, 32, 64, 128][:most])


class Refusals(EmptyCase):

    def test_most_below_0(self):
        for most in (-1, -2, -3, -100, LOWEST_MOST):
            self.answers(most, "", [-2])
            self.answers(most, "A -> B", [-2])
            self.answers(most, "0 -> A", [-2])

    def test_most_below_0_comes_ahead_of_the_text(self):
        for most in (-1, LOWEST_MOST):
            for text, line in WRONG_TEXTS:
                self.answers(most, text, [-2])

    def test_the_first_wrong_line(self):
        for most in (0, 1, HIGHEST_MOST):
            for text, line in WRONG_TEXTS:
                self.answers(most, text, [-100 - line])

    def test_they_are_those_of_check(self):
        for text, line in WRONG_TEXTS:
            self.assertEqual(check(list(text.encode("latin-1"))), [-100 - line])


class NothingIsKeptOrChanged(EmptyCase):

    CALLS = ((9, ""), (9, "A + A -> 2A # same\n\n0 <-> B\n"), (1, "A + B -> C\nC -> A"), (9, "A -> B\n\nA ->\n"),
             (-1, "A -> B"), (-1, "A"), (0, "B -> A"), (9, "C -> A\nA -> B"), (9, "A -> B\n" * 25),
             (9, " + ".join(EIGHT) + " -> 0"))

    def test_the_list_handed_in_stays_as_it_was(self):
        for most, text in self.CALLS:
            handed = list(text.encode("latin-1"))
            empty(most, handed)
            self.assertEqual(handed, list(text.encode("latin-1")))

    def test_the_list_is_not_changed_for_a_while_either(self):
        for most, text in self.CALLS:
            self.assertEqual(empty(most, ReadOnly(text.encode("latin-1"))), empty_of(most, text))

    def test_two_calls_answer_as_each_alone(self):
        alone = {(9, ""): [0], (1, "A + B -> C\nC -> A"): [2, 2], (9, "A -> B\n\nA ->\n"): [-102],
                 (-1, "A"): [-2], (0, "B -> A"): [1], (9, "C -> A\nA -> B"): [1, 1]}
        for first, second in itertools.product(alone, repeat=2):
            self.answers(first[0], first[1], alone[first])
            self.answers(second[0], second[1], alone[second])

    def test_between_calls_of_check(self):
        text = list(b"E + S <-> ES\nES -> E + P\n")
        for k in range(2):
            self.assertEqual(check(text), [0, 4, 3, 3])
            self.assertEqual(empty(9, text), [2, 5, 6])
            self.assertEqual(check(list(b"A -> B\nA")), [-101])

    def test_each_answer_is_a_list_of_its_own(self):
        for most, text in self.CALLS:
            answer = empty_of(most, text)
            kept = list(answer)
            answer.append(7)
            self.answers(most, text, kept)

    def test_nothing_is_printed(self):
        printed = io.StringIO()
        with contextlib.redirect_stdout(printed), contextlib.redirect_stderr(printed):
            for most, text in self.CALLS:
                empty_of(most, text)
        self.assertEqual(printed.getvalue(), "")


if __name__ == "__main__":
    unittest.main()
