"""draw against the document's words, written a second time with fractions."""

import itertools
import math
import random
import unittest
from fractions import Fraction

from made_networks import made_network, names_of, with_ways_back, write_text

from reactnets.networks import draw

ALL_NUMBERS = 2 ** 64


def weigh(network, amounts, rates, ways=math.comb):
    named = dict(zip(names_of(network), amounts))
    return [rate * math.prod(ways(named[name], many) for name, many in takes.items())
            for rate, (takes, gives) in zip(rates, network)]


def expected(number, weights):
    if not any(weights):
        return -5
    parts = [Fraction(part, sum(weights)) for part in itertools.accumulate(weights)]
    return [part > Fraction(number, ALL_NUMBERS) for part in parts].index(True)


def told_ways(amount, taken):
    """The ways themselves, one after another, and how many they are."""
    return sum(1 for way in itertools.combinations(range(amount), taken))


def numbers_to_draw(source, weights):
    numbers = [0, ALL_NUMBERS - 1, source.randrange(ALL_NUMBERS)]
    for part in itertools.accumulate(weights):
        border = part * ALL_NUMBERS // max(sum(weights), 1)
        numbers.extend((border - 1, border, border + 1))
    return [number for number in numbers if 0 <= number < ALL_NUMBERS]


class AgainstTheWords(unittest.TestCase):

    def same(self, number, text, amounts, rates, weights):
        answer = draw(number, list(text.encode()), list(amounts), list(rates))
        if answer != [expected(number, weights)]:
            self.assertEqual(answer, [expected(number, weights)], (number, text, amounts, rates))
        return answer[0]

    def test_ways_told_one_after_another(self):
        source = random.Random(4)
        network = [({"A": 1}, {}), ({}, {"B": 1}), ({"B": 1}, {}), ({"A": 1, "B": 1}, {})]
        for first, second in itertools.product(range(1, 5), repeat=2):
            network[0] = ({"A": first}, {})
            network[3] = ({"A": second, "B": first}, {})
            text = write_text(source, network)
            for amounts in itertools.product(range(7), repeat=2):
                weights = weigh(network, amounts, (3, 1, 2, 1), told_ways)
                for number in numbers_to_draw(source, weights):
                    self.same(number, text, amounts, (3, 1, 2, 1), weights)

    def test_made_networks(self):
        source = random.Random(5)
        drawn = {}
        for k in range(1500):
            network = with_ways_back(source, made_network(source, source.choice((1, 2, 5, 99))))
            highest = source.choice((1, 5, 100, 1000))
            amounts = [source.choice((source.randint(0, highest), highest)) for name in names_of(network)]
            rates = [source.choice((0, 1, source.randint(1, 1000000), 1000000)) for reaction in network]
            text = write_text(source, network)
            weights = weigh(network, amounts, rates)
            numbers = numbers_to_draw(source, weights)
            for number in source.sample(numbers, min(len(numbers), 6)):
                answer = self.same(number, text, amounts, rates, weights)
                drawn[answer] = drawn.get(answer, 0) + 1
        # Else the networks would hardly show which of many is drawn.
        self.assertEqual(sorted(drawn), [-5] + list(range(24)))
        self.assertGreater(min(drawn.values()), 30, drawn)


if __name__ == "__main__":
    unittest.main()
