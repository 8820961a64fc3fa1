"""check against the document's grammar, written a second time as regular expressions."""

import itertools
import random
import re
import unittest

from reactnets.networks import check

TERM = rb"(?:[1-9][0-9]? *)?[A-Za-z][A-Za-z0-9_]{0,15}"
SIDE = rb" *(?:0|" + TERM + rb"(?: *\+ *" + TERM + rb")*) *"
LINE = re.compile(rb"(" + SIDE + rb")(<?->)(" + SIDE + rb")")
ONE_TERM = re.compile(rb"([1-9][0-9]?)? *([A-Za-z][A-Za-z0-9_]*)")

SMALL_ALPHABET = b"A0 2-><+#\n"
LONGEST_SMALL = 5
ARROW_FRAMES = ((b"A", b"B"), (b"0-", b">A"), (b"A<", b">0"), (b"2", b"->A"), (b"A->", b""), (b"A+", b"->0"))
PIECES = (b"A", b"B", b"C1", b"d_", b"0", b"1", b"2", b"9", b"98", b"99", b"100", b" ", b"  ", b" ", b"+", b" + ", b"->",
          b" -> ", b"<->", b" <-> ", b"#", b"\n", b"\n", b"-", b"<", b">", b"_", b"x" * 16, b"y" * 17, b"\t", b"\xc4")


def side_amounts(side):
    amounts = {}
    if side.strip(b" ") != b"0":
        for number, name in ONE_TERM.findall(side):
            amounts[name] = amounts.get(name, 0) + int(number or 1)
    return amounts


def expected(text):
    names, mixes, reactions = set(), set(), 0
    for number, row in enumerate(text.split(b"\n")):
        row = row.split(b"#")[0]
        if row.strip(b" ") == b"":
            continue
        match = LINE.fullmatch(row)
        if match is None:
            return [-100 - number]
        sides = [side_amounts(match.group(1)), side_amounts(match.group(3))]
        reactions += len(match.group(2)) - 1
        for side in sides:
            names.update(side)
            mixes.add(frozenset(side.items()))
        if max(list(sides[0].values()) + list(sides[1].values()), default=0) > 99:
            return [-100 - number]
        if len(names) > 24 or reactions > 24:
            return [-100 - number]
    return [0, len(names), reactions, len(mixes)]


def random_side(source):
    if source.random() < 0.1:
        return b"0"
    terms = []
    for k in range(source.randint(1, 4)):
        number = source.choice((b"", b"", b"1", b"2", b"3", b"48", b"49", b"50"))
        terms.append(number + b" " * source.randint(0, 1) + b"s%d" % source.randint(0, 29))
    return source.choice((b"+", b" + ", b"+  ")).join(terms)


def random_text(source):
    rows = []
    for k in range(source.randint(0, 26)):
        arrow = source.choice((b"->", b" -> ", b" -> ", b"<->", b" <-> "))
        row = random_side(source) + arrow + random_side(source)
        rows.append(source.choice((row, row, row, row + b" # more", b"", b"# " + row)))
    return b"\n".join(rows) + source.choice((b"", b"\n"))


def random_change(source, text):
    place = source.randint(0, len(text))
    piece = source.choice(PIECES)
    return text[:place] + piece + text[place + source.randint(0, 2):]


class AgainstTheGrammar(unittest.TestCase):

    def same(self, text):
        if check(list(text)) != expected(text):
            self.assertEqual(check(list(text)), expected(text), text)

    def test_every_small_text(self):
        for length in range(LONGEST_SMALL + 1):
            for letters in itertools.product(SMALL_ALPHABET, repeat=length):
                self.same(bytes(letters))

    def test_every_small_text_within_a_frame(self):
        for before, behind in ARROW_FRAMES:
            for length in range(LONGEST_SMALL):
                for letters in itertools.product(SMALL_ALPHABET, repeat=length):
                    self.same(before + bytes(letters) + behind)

    def test_texts_of_pieces(self):
        source = random.Random(1)
        for k in range(20000):
            self.same(b"".join(source.choice(PIECES) for k in range(source.randint(1, 9))))

    def test_networks_and_networks_with_a_change(self):
        source = random.Random(2)
        answers = []
        for k in range(3000):
            text = random_text(source)[:2000]
            answers.append(expected(text)[0])
            self.same(text)
            self.same(random_change(source, text)[:2000])
        # Else the texts would show only one of the two.
        self.assertGreater(answers.count(0), 300)
        self.assertLess(answers.count(0), 2700)


if __name__ == "__main__":
    unittest.main()
