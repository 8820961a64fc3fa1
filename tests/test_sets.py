"""empty against the document's words, written a second time with Python's sets."""

import itertools
import random
import unittest

from reactnets.networks import empty

SIDES_OF_TWO = ("", "A", "B", "AB")
SIDES_OF_THREE = ("", "A", "B", "C", "AB", "AC", "BC", "ABC")
ALL = 2147483647


def write(reactions):
    rows = []
    for takes, gives in reactions:
        rows.append(" -> ".join(" + ".join(side) or "0" for side in (takes, gives)))
    return "\n".join(rows)


def all_parts(names):
    for size in range(len(names) + 1):
        for part in itertools.combinations(names, size):
            yield frozenset(part)


def stays_empty(part, reactions):
    return all(part & set(takes) for takes, gives in reactions if part & set(gives))


def expected(reactions):
    names = list(dict.fromkeys(name for sides in reactions for side in sides for name in side))
    right = [part for part in all_parts(names) if part and stays_empty(part, reactions)]
    least = [part for part in right if not any(other < part for other in right)]
    return sorted(sum(1 << names.index(name) for name in part) for part in least)


def random_reactions(source):
    names = "abcdefgh"[:source.randint(1, 8)]
    widest = source.randint(1, 4)
    reactions = []
    for k in range(source.randint(0, 24)):
        takes = source.sample(names, min(len(names), source.randint(source.random() < 0.9, widest)))
        gives = source.sample(names, min(len(names), source.randint(0, widest)))
        reactions.append((takes, gives))
    return reactions


class AgainstTheWords(unittest.TestCase):

    def same(self, reactions, most=ALL):
        sets = expected(reactions)
        answer = empty(most, list(write(reactions).encode()))
        if answer != [len(sets)] + sets[:most]:
            self.assertEqual(answer, [len(sets)] + sets[:most], write(reactions))
        return sets

    def test_every_small_network_of_two_substances(self):
        every = list(itertools.product(SIDES_OF_TWO, repeat=2))
        for count in range(4):
            for reactions in itertools.product(every, repeat=count):
                self.same(reactions)

    def test_every_small_network_of_three_substances(self):
        every = list(itertools.product(SIDES_OF_THREE, repeat=2))
        for count in range(3):
            for reactions in itertools.product(every, repeat=count):
                self.same(reactions)

    def test_networks_of_up_to_eight_substances(self):
        source = random.Random(1)
        several = 0
        for k in range(2000):
            sets = self.same(random_reactions(source), source.choice((0, 1, 2, 3, 5, 300, ALL)))
            several += len(sets) > 1 and max(sets).bit_count() > 1
        # Else the networks would hardly show which sets are the least.
        self.assertGreater(several, 200)


if __name__ == "__main__":
    unittest.main()
