"""draw, point 4 of the document: ordinary weights, the edges it names, wrong texts and numbers."""

import contextlib
import io
import itertools
import math
import unittest

from read_only import ReadOnly
from wrong_texts import WRONG_TEXTS

from reactnets.networks import check, draw, empty, go

ALL_NUMBERS = 18446744073709551616
LAST_NUMBER = 18446744073709551615
HALF = 9223372036854775808
QUARTER = 4611686018427387904
SOME_NUMBERS = (0, 1, 2, 1000, QUARTER - 1, QUARTER, HALF - 1, HALF, HALF + 1, LAST_NUMBER - 1, LAST_NUMBER)
HIGHEST = 4294967295
ENZYME = "E + S <-> ES   # binding\nES -> E + P\n"
NAMES = ["s%d" % k for k in range(24)]


def draw_of(number, text, amounts, rates):
    return draw(number, list(text.encode("latin-1")), list(amounts), list(rates))


def borders(weights):
    """For each reaction of some weight: itself, its first number and the one behind its last."""
    everything = sum(weights)
    first = 0
    for reaction, weight in enumerate(weights):
        # The numbers n with n * everything below the weights up to it * 2^64.
        behind = -(-sum(weights[:reaction + 1]) * ALL_NUMBERS // everything)
        if behind > first:
            yield reaction, first, behind
        first = behind


class DrawCase(unittest.TestCase):

    def draws(self, number, text, amounts, rates, answer):
        with self.subTest(number=number, text=text, amounts=amounts, rates=rates):
            self.assertEqual(draw_of(number, text, amounts, rates), [answer])

    def weighs(self, text, amounts, rates, *weights):
        behind = 0
        for reaction, first, behind in borders(weights):
            for number in (first, first + 1, (first + behind) // 2, behind - 2, behind - 1):
                if first <= number < behind:
                    self.draws(number, text, amounts, rates, reaction)
        self.assertEqual(behind, ALL_NUMBERS)


class OrdinaryDraws(DrawCase):

    def test_two_alike(self):
        self.draws(0, "A -> B\nB -> A", (5, 5), (1, 1), 0)
        self.draws(HALF - 1, "A -> B\nB -> A", (5, 5), (1, 1), 0)
        self.draws(HALF, "A -> B\nB -> A", (5, 5), (1, 1), 1)
        self.draws(LAST_NUMBER, "A -> B\nB -> A", (5, 5), (1, 1), 1)

    def test_an_enzyme(self):
        self.weighs(ENZYME, (2, 3, 4, 9), (1, 2, 3), 6, 8, 12)

    def test_hunters_and_hunted(self):
        self.weighs("X -> 2X\nX + Y -> 2Y\nY -> 0", (10, 20), (10, 1, 10), 100, 200, 200)

    def test_what_is_given_says_nothing(self):
        self.weighs("A -> 99B\nA -> 0\nA -> A\nA -> 5A + 7B", (3, 0), (1, 1, 1, 1), 3, 3, 3, 3)

    def test_both_ways(self):
        self.weighs("A <-> B", (1, 3), (1, 1), 1, 3)
        self.weighs("A <-> B\nB -> C\nC <-> A", (1, 2, 3), (1, 1, 1, 1, 1), 1, 2, 2, 3, 1)
        self.weighs("2A <-> 0", (4,), (1, 5), 6, 5)

    def test_lines_that_say_nothing(self):
        self.weighs("# C -> D\n\n  A -> B # -> 0\n   \nB -> 0", (2, 5), (3, 4), 6, 20)

    def test_amounts_are_as_substances_come_in_the_text(self):
        self.weighs("C -> B\nB -> A\nA -> a\na -> 0", (1, 10, 100, 1000), (1, 1, 1, 1), 1, 10, 100, 1000)

    def test_24_reactions(self):
        text = "\n".join("%s -> 0" % name for name in NAMES)
        self.weighs(text, range(1, 25), (1,) * 24, *range(1, 25))
        self.weighs(text, (1,) * 24, range(24), *range(24))
        self.weighs("A <-> B\n" * 12, (1, 2), (1,) * 24, *(1, 2) * 12)

    def test_2000_bytes(self):
        self.weighs(("A <-> B\n" + "# " + "x" * 1000 + "\nC -> A").ljust(2000), (1, 2, 3), (3, 2, 1), 3, 4, 3)


class Weights(DrawCase):

    def test_0_on_the_left_weighs_its_rate(self):
        self.weighs("0 -> A\n0 -> B\n0 -> 0", (0, 0), (1, 2, 3), 1, 2, 3)
        self.weighs("0 -> A\n0 -> B", (1000, 0), (1000000, 1), 1000000, 1)
        self.weighs("0 <-> A", (7,), (3, 1), 3, 7)

    def test_one_taken_weighs_the_amount(self):
        for amount in (1, 2, 3, 99, 999, 1000):
            self.weighs("A -> B\n0 -> B", (amount, 0), (1, 1), amount, 1)

    def test_two_taken(self):
        for amount, ways in ((2, 1), (3, 3), (4, 6), (5, 10), (100, 4950), (1000, 499500)):
            self.weighs("2A -> B\n0 -> B", (amount, 0), (1, 1000), ways, 1000)

    def test_three_taken(self):
        for amount, ways in ((3, 1), (4, 4), (5, 10), (6, 20), (1000, 166167000)):
            self.weighs("3A -> B\n0 -> B", (amount, 0), (1, 1000), ways, 1000)

    def test_99_taken(self):
        for amount, ways in ((99, 1), (100, 100), (101, 5050), (102, 171700)):
            self.weighs("99A -> B\n0 -> B", (amount, 0), (1, 1000), ways, 1000)
        for amount in (150, 198, 500, 999, 1000):
            self.weighs("99A -> B\n98A -> B", (amount, 0), (7, 9), 7 * math.comb(amount, 99), 9 * math.comb(amount, 98))

    def test_each_number_taken_from_100(self):
        for taken in range(1, 100):
            self.weighs("%dA -> 0\n%dA -> 0" % (taken, 100 - taken), (100,), (2, 3), 2, 3)

    def test_the_amount_around_what_is_taken(self):
        for taken in (1, 2, 3, 50, 98, 99):
            text = "%dA -> 0\n0 -> A" % taken
            self.weighs(text, (taken - 1,), (5, 7), 0, 7)
            self.weighs(text, (taken,), (5, 7), 5, 7)
            self.weighs(text, (taken + 1,), (5, 7), 5 * (taken + 1), 7)
            self.weighs(text, (1000,), (5, 7), 5 * math.comb(1000, taken), 7)

    def test_far_less_than_what_is_taken(self):
        for amount in range(99):
            self.weighs("99A -> 0\n0 -> A", (amount,), (1000000, 1), 0, 1)

    def test_a_name_more_than_once_on_a_side(self):
        # Two of five are taken in 10 ways, not in 5 * 5 or 5 * 4.
        self.weighs("A + A -> 0\n0 -> A", (5,), (1, 7), 10, 7)
        self.weighs("A + B + 2A -> 0\n0 -> A", (5, 3), (1, 7), 30, 7)
        self.weighs("50A + 49A -> 0\n0 -> A", (100,), (1, 7), 100, 7)
        self.weighs("A + A -> 0\n0 -> A", (1,), (1, 7), 0, 7)

    def test_several_substances(self):
        self.weighs("A + B -> 0\nA -> 0\nB -> 0", (3, 5), (1, 1, 1), 15, 3, 5)
        self.weighs("2A + 3B + C -> 0\n0 -> A", (4, 5, 6), (1, 100), 360, 100)
        self.weighs("2A + 3B + C -> 0\n0 -> A", (4, 5, 0), (1, 100), 0, 100)
        self.weighs("2A + 3B + C -> 0\n0 -> A", (1, 5, 9), (1, 100), 0, 100)
        self.weighs("2A + 3B + C -> 0\n0 -> A", (4, 2, 9), (1, 100), 0, 100)

    def test_two_that_are_lacked(self):
        # Neither lack makes up for the other, however far each goes.
        self.weighs("3A + 5B -> 0\n0 -> A", (1, 1), (1, 1), 0, 1)
        self.weighs("99A + 99B -> 0\n0 -> A", (0, 98), (1, 1), 0, 1)

    def test_all_24_substances(self):
        text = " + ".join(NAMES) + " -> 0\n0 -> s0"
        self.weighs(text, (1,) * 23 + (5,), (1, 1), 5, 1)
        self.weighs(text, (2,) * 24, (1, 1000000), 2 ** 24, 1000000)
        self.weighs(text, (2,) * 23 + (0,), (1, 1), 0, 1)

    def test_a_substance_on_both_sides(self):
        self.weighs("2A -> 2A\nA -> 5A", (4,), (1, 1), 6, 4)

    def test_substances_that_are_not_taken_say_nothing(self):
        for amount in (0, 1, 1000):
            self.weighs("A -> B\n2A -> C", (4, amount, amount), (1, 1), 4, 6)

    def test_rates(self):
        self.weighs("A -> B\nA -> C", (3, 0, 0), (1, 2), 3, 6)
        self.weighs("A -> B\nA -> C", (3, 0, 0), (1000000, 1), 3000000, 3)
        self.weighs("A -> B\nA -> C", (3, 0, 0), (999999, 1000000), 2999997, 3000000)


class WeightsOf0(DrawCase):

    def test_first(self):
        self.weighs("A -> 0\nB -> 0\nC -> 0", (0, 1, 1), (1, 1, 1), 0, 1, 1)
        self.weighs("A -> 0\nB -> 0\nC -> 0", (1, 1, 1), (0, 1, 1), 0, 1, 1)

    def test_in_the_middle(self):
        self.weighs("A -> 0\nB -> 0\nC -> 0", (1, 0, 1), (1, 1, 1), 1, 0, 1)
        self.weighs("A -> 0\nB -> 0\nC -> 0", (1, 1, 1), (1, 0, 1), 1, 0, 1)
        self.draws(HALF, "A -> 0\nB -> 0\nC -> 0", (1, 1, 1), (1, 0, 1), 2)

    def test_last(self):
        self.weighs("A -> 0\nB -> 0\nC -> 0", (1, 1, 0), (1, 1, 1), 1, 1, 0)
        self.weighs("A -> 0\nB -> 0\nC -> 0", (1, 1, 1), (1, 1, 0), 1, 1, 0)
        self.draws(LAST_NUMBER, "A -> 0\nB -> 0\nC -> 0", (1, 1, 1), (1, 1, 0), 1)

    def test_several_beside_one_another(self):
        self.weighs("A -> 0\n" * 7, (1,), (0, 0, 3, 0, 0, 4, 0), 0, 0, 3, 0, 0, 4, 0)

    def test_all_but_one(self):
        for place in range(24):
            rates = [0] * 24
            rates[place] = 1
            for number in SOME_NUMBERS:
                self.draws(number, "A -> 0\n" * 24, (1,), rates, place)

    def test_never_drawn(self):
        for rates in itertools.product((0, 1), repeat=4):
            for number in SOME_NUMBERS:
                if any(rates):
                    drawn = draw_of(number, "0 -> A\n" * 4, (0,), rates)[0]
                    self.assertEqual(rates[drawn], 1, (rates, number))


class Numbers(DrawCase):

    def test_one_reaction_alone(self):
        for text, amounts in (("A -> B", (1, 0)), ("0 -> A", (0,)), ("0 -> 0", ()), ("99A -> 0", (1000,))):
            for rate in (1, 2, 1000000):
                for number in SOME_NUMBERS:
                    self.draws(number, text, amounts, (rate,), 0)

    def test_0_draws_the_first_of_some_weight(self):
        self.draws(0, "0 -> A\n0 -> B", (0, 0), (1, 1000000), 0)
        self.draws(0, "A -> B\n0 -> B\n0 -> A", (0, 0), (1000000, 1, 1000000), 1)

    def test_the_last_draws_the_last_of_some_weight(self):
        self.draws(LAST_NUMBER, "0 -> A\n0 -> B", (0, 0), (1000000, 1), 1)
        self.draws(LAST_NUMBER, "0 -> A\n0 -> B\nA -> B", (0, 0), (1000000, 1, 1000000), 1)

    def test_a_border_that_comes_out_even(self):
        text = "0 -> A\n0 -> A\n0 -> A"
        for number, drawn in ((QUARTER - 1, 0), (QUARTER, 1), (QUARTER + 1, 1),
                              (HALF - 1, 1), (HALF, 2), (HALF + 1, 2)):
            self.draws(number, text, (0,), (1, 1, 2), drawn)
            self.draws(number, text, (0,), (250000, 250000, 500000), drawn)

    def test_a_border_that_does_not_come_out_even(self):
        # 2^64 is 3 * 6148914691236517205 + 1.
        for number, drawn in ((6148914691236517204, 0), (6148914691236517205, 0), (6148914691236517206, 1),
                              (12297829382473034410, 1), (12297829382473034411, 2), (12297829382473034412, 2)):
            self.draws(number, "0 -> A\n" * 3, (0,), (1, 1, 1), drawn)

    def test_a_reaction_so_light_that_one_number_draws_it(self):
        # All ways to take the nine, times the rate, are more than there are numbers.
        self.assertGreater(1000000 * math.comb(1000, 9), ALL_NUMBERS)
        self.draws(0, "0 -> A\n9A -> 0", (1000,), (1, 1000000), 0)
        self.draws(1, "0 -> A\n9A -> 0", (1000,), (1, 1000000), 1)

    def test_a_reaction_so_light_that_no_number_draws_it(self):
        for number in SOME_NUMBERS:
            self.draws(number, "9A -> 0\n0 -> A", (1000,), (1000000, 1), 0)


class LargeWeights(DrawCase):

    MANY = " + ".join("99" + name for name in NAMES)
    FEW = " + ".join("99" + name for name in NAMES[:23]) + " + 98" + NAMES[23]
    AMOUNTS = (1000,) * 24
    HEAVY = math.comb(1000, 99) ** 24

    def test_alone(self):
        for number in SOME_NUMBERS:
            self.draws(number, self.MANY + " -> 0", self.AMOUNTS, (1000000,), 0)

    def test_beside_one_as_heavy(self):
        text = self.MANY + " -> 0\n" + self.MANY + " -> s1"
        self.weighs(text, self.AMOUNTS, (1000000, 1000000), 1, 1)
        self.weighs(text, self.AMOUNTS, (1000000, 999999), 1000000, 999999)

    def test_beside_one_that_takes_one_less(self):
        text = self.MANY + " -> 0\n" + self.FEW + " -> 0"
        # C(1000, 99) is 902 / 99 of C(1000, 98).
        self.weighs(text, self.AMOUNTS, (1000000, 1000000), 902, 99)
        self.weighs(text, self.AMOUNTS, (99, 902), 1, 1)

    def test_one_way_among_thousands_of_digits_tells(self):
        # The weights up to the second are above half of all by a half alone.
        text = "0 -> 0\n" + self.MANY + " -> 0\n" + self.MANY + " -> 0"
        self.draws(HALF, text, self.AMOUNTS, (1, 1000000, 1000000), 1)
        self.draws(HALF, text, self.AMOUNTS, (0, 1000000, 1000000), 2)
        self.weighs(text, self.AMOUNTS, (1, 1000000, 1000000), 1, 1000000 * self.HEAVY, 1000000 * self.HEAVY)

    def test_one_way_behind_tells(self):
        text = self.MANY + " -> 0\n0 -> 0\n" + self.MANY + " -> 0\n0 -> 0"
        self.draws(HALF, text, self.AMOUNTS, (1000000, 2, 1000000, 1), 1)
        self.draws(HALF, text, self.AMOUNTS, (1000000, 1, 1000000, 1), 2)
        self.draws(HALF, text, self.AMOUNTS, (1000000, 1, 1000000, 2), 2)

    def test_as_many_as_2000_bytes_hold(self):
        names = [chr(97 + k) for k in range(24)]
        row = "+".join("99" + name for name in names) + "->0\n"
        text = row * (2000 // len(row))
        count = text.count("\n")
        self.assertGreater(count, 15)
        self.weighs(text, self.AMOUNTS, (1000000,) * count, *(1,) * count)


class NoneCanBeDrawn(DrawCase):

    def test_no_reactions(self):
        for text in ("", "\n", "   ", "# A -> B\n\n", " " * 2000):
            for number in SOME_NUMBERS:
                self.draws(number, text, (), (), -5)

    def test_all_rates_are_0(self):
        for number in SOME_NUMBERS:
            self.draws(number, "A -> B", (5, 5), (0,), -5)
            self.draws(number, "0 -> A\nA <-> B", (1000, 1000), (0, 0, 0), -5)
            self.draws(number, "0 -> 0", (), (0,), -5)
            self.draws(number, "A -> B\n" * 24, (1, 1), (0,) * 24, -5)

    def test_every_reaction_lacks_something(self):
        for number in SOME_NUMBERS:
            self.draws(number, "A -> B", (0, 1000), (1000000,), -5)
            self.draws(number, "2A <-> 3B", (1, 2), (5, 5), -5)
            self.draws(number, "A + B -> 0\n99A -> 0", (98, 0), (1, 1), -5)
            self.draws(number, "A -> A", (0,), (1,), -5)

    def test_some_rates_are_0_and_the_others_lack_something(self):
        for number in SOME_NUMBERS:
            self.draws(number, "A -> B\nB -> A\n0 -> A", (0, 5), (7, 0, 0), -5)


class Refusals(DrawCase):

    AMOUNTS = ((), (0,), (1000,), (1001,), (HIGHEST,), (3, 1001, 0), tuple(range(100)), (HIGHEST,) * 100)
    RATES = ((), (0,), (1000000,), (1000001,), (HIGHEST,), (1, 1000001, 1), tuple(range(100)), (HIGHEST,) * 100)

    def test_the_first_wrong_line_comes_first(self):
        for text, line in WRONG_TEXTS:
            for amounts, rates in itertools.product(self.AMOUNTS, self.RATES):
                self.draws(0, text, amounts, rates, -100 - line)

    def test_at_every_number(self):
        for number in SOME_NUMBERS:
            self.draws(number, "A -> B\nA ->", (1, 1), (1,), -101)
            self.draws(number, "A -> B", (1001, 1), (1,), -2)
            self.draws(number, "A -> B", (1, 1), (1000001,), -2)

    def test_they_are_those_of_check(self):
        for text, line in WRONG_TEXTS:
            self.assertEqual(check(list(text.encode("latin-1"))), [-100 - line])

    def test_an_amount_above_1000_wherever_it_stands(self):
        text = " + ".join(NAMES) + " -> 0"
        for place in range(24):
            for amount in (1001, 1002, 65536, HIGHEST):
                amounts = [1] * 24
                amounts[place] = amount
                self.draws(0, text, amounts, (1,), -2)
            amounts[place] = 1000
            self.draws(0, text, amounts, (1,), 0)

    def test_a_rate_above_1000000_wherever_it_stands(self):
        for place in range(24):
            for rate in (1000001, 1000002, HIGHEST):
                rates = [1] * 24
                rates[place] = rate
                self.draws(0, "0 -> A\n" * 24, (0,), rates, -2)
            rates[place] = 1000000
            self.draws(0, "0 -> A\n" * 24, (0,), rates, 0)

    def test_amounts_and_rates_as_high_as_they_may_be(self):
        self.draws(0, "A -> B", (1000, 1000), (1000000,), 0)
        self.draws(0, "A <-> B", (1000, 1000), (1000000, 1000000), 0)

    def test_where_all_weights_would_be_0(self):
        self.draws(0, "A -> B", (1001, 0), (0,), -2)
        self.draws(0, "A -> B", (0, 1001), (1,), -2)
        self.draws(0, "A -> B", (0, 0), (1000001,), -2)
        self.draws(0, "2A -> B\nA -> B", (0, 0), (1, 1000001), -2)

    def test_a_substance_that_nothing_takes(self):
        self.draws(0, "A -> B", (1, 1001), (1,), -2)
        self.draws(0, "0 -> A", (1001,), (1,), -2)

    def test_a_reaction_behind_the_drawn_one(self):
        self.draws(0, "A -> 0\nB -> 0", (1, 1001), (1, 1), -2)
        self.draws(0, "A -> 0\nB -> 0", (1, 0), (1, 1000001), -2)

    def test_both(self):
        self.draws(0, "A -> B", (1001, 0), (1000001,), -2)


class NothingIsKeptOrChanged(DrawCase):

    CALLS = (
        (0, "", (), ()), (LAST_NUMBER, "A -> B", (2, 0), (3,)), (HALF, "A <-> B", (1, 2), (3, 4)),
        (0, "A -> B", (0, 0), (1,)), (0, "A -> B", (1001, 0), (1,)), (0, "A -> B", (1, 0), (1000001,)),
        (0, "A -> B\nA ->", (1, 2, 3), (0, HIGHEST)), (0, "A", (), ()), (QUARTER, ENZYME, (1, 3, 5, 7), (2, 4, 6)),
    )

    def test_the_lists_handed_in_stay_as_they_were(self):
        for number, text, amounts, rates in self.CALLS:
            handed = [list(text.encode("latin-1")), list(amounts), list(rates)]
            draw(number, *handed)
            self.assertEqual(handed, [list(text.encode("latin-1")), list(amounts), list(rates)])

    def test_the_lists_are_not_changed_for_a_while_either(self):
        for number, text, amounts, rates in self.CALLS:
            answer = draw(number, ReadOnly(text.encode("latin-1")), ReadOnly(amounts), ReadOnly(rates))
            self.assertEqual(answer, draw_of(number, text, amounts, rates))

    def test_one_list_may_be_handed_in_twice(self):
        handed = [3, 1]
        self.assertEqual(draw(LAST_NUMBER, list(b"A <-> B"), handed, handed), [1])
        self.assertEqual(handed, [3, 1])

    def test_two_calls_answer_as_each_alone(self):
        alone = (
            ((0, "", (), ()), -5), ((LAST_NUMBER, "A -> B", (2, 0), (3,)), 0), ((HALF, "A <-> B", (1, 2), (3, 4)), 1),
            ((0, "A -> B", (1001, 0), (1,)), -2), ((0, "A -> B", (0, 0), (1,)), -5),
            ((0, "A -> B\nA ->", (1,), (1,)), -101), ((LAST_NUMBER, ENZYME, (1, 3, 5, 7), (2, 4, 6)), 2),
        )
        for first, second in itertools.product(alone, repeat=2):
            self.draws(*first[0], first[1])
            self.draws(*second[0], second[1])

    def test_between_calls_of_others(self):
        text = list(ENZYME.encode())
        for k in range(2):
            self.assertEqual(draw(HALF, text, [2, 3, 4, 0], [1, 2, 3]), [1])
            self.assertEqual(check(text), [0, 4, 3, 3])
            self.assertEqual(draw(0, text, [2, 3, 4, 0], [1, 2, 3]), [0])
            self.assertEqual(empty(9, text), [2, 5, 6])
            self.assertEqual(draw(LAST_NUMBER, text, [2, 3, 4, 0], [1, 2, 3]), [2])
            self.assertEqual(go(text, [1, 1, 0, 0], [0, 2]), [2, 1, 0, 0, 1])

    def test_each_answer_is_a_list_of_its_own(self):
        for call in self.CALLS:
            answer = draw_of(*call)
            kept = list(answer)
            answer.append(7)
            self.assertEqual(draw_of(*call), kept)

    def test_what_is_given_back(self):
        for call in self.CALLS:
            answer = draw_of(*call)
            self.assertIs(type(answer), list)
            self.assertEqual([type(number) for number in answer], [int])

    def test_nothing_is_printed(self):
        printed = io.StringIO()
        with contextlib.redirect_stdout(printed), contextlib.redirect_stderr(printed):
            for call in self.CALLS:
                draw_of(*call)
        self.assertEqual(printed.getvalue(), "")


if __name__ == "__main__":
    unittest.main()
