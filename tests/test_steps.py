"""go against the document's words, written a second time with amounts by name."""

import itertools
import random
import unittest

from made_networks import made_network, names_of, with_ways_back, write_text

from reactnets.networks import go

HIGHEST = 4294967295
SMALL_NETWORK = [({"A": 1}, {"B": 2}), ({"B": 1}, {}), ({"A": 1, "B": 1}, {"A": 2})]


class Stopped(Exception):
    pass


def do_one(takes, gives, amounts):
    after = dict(amounts)
    for name, many in takes.items():
        after[name] -= many
        if after[name] < 0:
            raise Stopped("lacks")
    for name, many in gives.items():
        after[name] += many
    if any(amount > HIGHEST for amount in after.values()):
        raise Stopped("above")
    return after


def expected(network, amounts, steps):
    """The answer, and why it ended there."""
    if set(steps) - set(range(len(network))):
        return [-5] + list(amounts), "no reaction"
    named = dict(zip(names_of(network), amounts))
    for done, step in enumerate(steps):
        try:
            named = do_one(*network[step], named)
        except Stopped as stopped:
            why = str(stopped)
            return [{"lacks": done, "above": -5}[why]] + list(named.values()), why
    return [len(steps)] + list(named.values()), "all"


def made_amount(source):
    if source.random() < 0.5:
        return source.randint(0, 2000)
    return source.choice((0, 1, 5, 40, 300, 3000, HIGHEST - 200, HIGHEST - 1, HIGHEST))


def made_steps(source, network):
    if not network or source.random() < 0.05:
        return [source.randint(0, 255) for k in range(source.randint(0, 5))]
    steps = [source.randrange(len(network)) for k in range(source.choice((0, 1, 2, 5, 10, 50, 300)))]
    if steps and source.random() < 0.1:
        steps[source.randrange(len(steps))] = source.choice((len(network), 255))
    return steps


class AgainstTheWords(unittest.TestCase):

    def same(self, network, text, amounts, steps):
        answer, why = expected(network, amounts, steps)
        if go(list(text.encode()), list(amounts), list(steps)) != answer:
            self.assertEqual(go(list(text.encode()), list(amounts), list(steps)), answer, (text, amounts, steps))
        return why

    def test_every_few_steps_of_a_small_network(self):
        text = "A -> 2B\nB -> 0\nA + B -> 2A"
        for count in range(5):
            for steps in itertools.product(range(4), repeat=count):
                for amounts in itertools.product((0, 1, 2, HIGHEST - 1, HIGHEST), repeat=2):
                    self.same(SMALL_NETWORK, text, amounts, steps)

    def test_made_networks(self):
        source = random.Random(3)
        seen = {"all": 0, "lacks": 0, "above": 0, "no reaction": 0}
        for k in range(3000):
            network = with_ways_back(source, made_network(source, source.choice((1, 3, 99))))
            amounts = [made_amount(source) for name in names_of(network)]
            text = write_text(source, network)
            seen[self.same(network, text, amounts, made_steps(source, network))] += 1
        # Else the networks would hardly show each of the four ends.
        self.assertGreater(min(seen.values()), 150, seen)


if __name__ == "__main__":
    unittest.main()
