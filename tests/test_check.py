"""check, point 1 of the document: ordinary texts, the edges it names, wrong texts."""

import contextlib
import io
import unittest

from read_only import ReadOnly

from reactnets.networks import check


def check_text(text):
    return check(list(text.encode("latin-1")))


def wrong_in(line):
    return [-100 - line]


def distinct_names(count):
    return ["s%d" % k for k in range(count)]


class CheckCase(unittest.TestCase):

    def right(self, text, substances, reactions, mixes):
        with self.subTest(text=text):
            self.assertEqual(check_text(text), [0, substances, reactions, mixes])

    def is_right(self, text):
        with self.subTest(text=text):
            self.assertEqual(check_text(text)[0], 0)

    def wrong(self, text, line=0):
        with self.subTest(text=text):
            self.assertEqual(check_text(text), wrong_in(line))


class OrdinaryTexts(CheckCase):

    def test_one_reaction(self):
        self.right("A -> B", 2, 1, 2)
        self.right("2H2 + O2 -> 2H2O\n", 3, 1, 2)

    def test_both_ways_is_two_reactions(self):
        self.right("A <-> B", 2, 2, 2)
        self.right("E + S <-> ES\nES -> E + P\n", 4, 3, 3)

    def test_without_any_blank(self):
        self.right("A->B", 2, 1, 2)
        self.right("A+2B<->3C", 3, 2, 2)

    def test_many_lines(self):
        text = "0 -> A  # in\nA + X -> 2X\nX + Y -> 2Y\nY -> 0\nB <-> 3 X\n"
        self.right(text, 4, 6, 9)

    def test_a_reaction_told_again_counts_again(self):
        self.right("A -> B\nA -> B\n", 2, 2, 2)

    def test_a_reaction_that_changes_nothing(self):
        self.right("A -> A", 1, 1, 1)
        self.right("A <-> A", 1, 2, 1)

    def test_upper_and_lower_letters_differ(self):
        self.right("A -> a", 2, 1, 2)

    def test_names_with_a_common_start_differ(self):
        self.right("A -> AA\nA_ -> A1", 4, 2, 4)

    def test_what_is_given_back(self):
        for text in ("", "A -> B", "A"):
            answer = check_text(text)
            self.assertIs(type(answer), list)
            for number in answer:
                self.assertIs(type(number), int)


class TextsWithoutReactions(CheckCase):

    def test_no_bytes(self):
        self.assertEqual(check([]), [0, 0, 0, 0])

    def test_only_blanks_remarks_and_empty_lines(self):
        for text in (" ", "     ", "\n", "\n\n\n", "#", "# A -> B", "  # A\n\n   \n#\n", " \n "):
            self.right(text, 0, 0, 0)


class Lines(CheckCase):

    def test_a_line_feed_behind_the_last_line_or_none(self):
        self.right("A -> B\nB -> C", 3, 2, 3)
        self.right("A -> B\nB -> C\n", 3, 2, 3)
        self.wrong("A -> B\nB -> ", 1)
        self.wrong("A -> B\nB -> \n", 1)

    def test_lines_are_numbered_from_0(self):
        self.wrong("A", 0)
        self.wrong("A -> B\nA", 1)
        self.wrong("A -> B\nA -> B\nA\nA -> B", 2)

    def test_lines_that_say_nothing_are_numbered_too(self):
        self.wrong("\nA", 1)
        self.wrong("\n\n\nA\n", 3)
        self.wrong("# one\n   # two\n  \n\nA -> B\nA\n", 5)

    def test_the_first_wrong_line_is_told(self):
        self.wrong("A\nB\nC", 0)
        self.wrong("A -> B\n-> B\n100A -> B\nA", 1)
        self.wrong("\nA -> 0B\n\nA -> B\nA ->", 1)

    def test_a_line_does_not_go_on_in_the_next(self):
        self.wrong("A ->\nB", 0)
        self.wrong("A\n-> B", 0)
        self.wrong("A + \nB -> C", 0)

    def test_two_reactions_on_a_line(self):
        self.wrong("A -> B A -> B")

    def test_the_last_line_of_very_many(self):
        self.wrong("\n" * 1999 + "A", 1999)


class Blanks(CheckCase):

    def test_before_and_behind_everything(self):
        self.right("   A   +   2   B   <->   0   ", 2, 2, 2)
        self.right("  0  ->  0  ", 0, 1, 1)

    def test_at_each_place_alone(self):
        for text in (" A+2B->C", "A +2B->C", "A+ 2B->C", "A+2 B->C", "A+2B ->C", "A+2B-> C", "A+2B->C "):
            self.right(text, 3, 1, 2)
        for text in ("A+2B <->C", "A+2B<-> C"):
            self.right(text, 3, 2, 2)

    def test_at_each_place_many(self):
        self.right("A" + " " * 500 + "->" + " " * 500 + "99" + " " * 500 + "B", 2, 1, 2)

    def test_before_a_remark(self):
        self.right("A -> B   # said", 2, 1, 2)

    def test_not_within_an_arrow(self):
        for text in ("A - > B", "A < -> B", "A <- > B", "A < - > B"):
            self.wrong(text)

    def test_not_within_a_number(self):
        self.wrong("1 2A -> B")
        self.wrong("A -> 9 9 B")

    def test_not_within_a_name(self):
        for text in ("A B -> C", "A -> B C", "A 1 -> B", "A _ -> B", "2A B -> C"):
            self.wrong(text)

    def test_no_other_byte_is_a_blank(self):
        for byte in (0, 9, 11, 12, 13, 28, 29, 30, 31, 127, 133, 160, 255):
            other = chr(byte)
            for text in (other, other + "A -> B", "A -> B" + other, "A" + other + "-> B",
                         "A ->" + other + "B", "2" + other + "A -> B", "A +" + other + "B -> C"):
                self.wrong(text)
                self.wrong("A -> B\n" + text + "\n", 1)


class Remarks(CheckCase):

    def test_at_the_start_of_a_line(self):
        self.right("# A -> B\nA -> C", 2, 1, 2)

    def test_behind_blanks(self):
        self.right("    # A -> B\nA -> C", 2, 1, 2)

    def test_in_the_middle_of_a_line(self):
        self.right("A -> B# + C", 2, 1, 2)
        self.right("A -> B # -> C", 2, 1, 2)
        self.right("A -> B1#2", 2, 1, 2)

    def test_with_a_further_number_sign(self):
        self.right("A -> B # one # two ## -> \nC -> D", 4, 2, 4)

    def test_with_any_byte_but_a_line_feed(self):
        remark = [byte for byte in range(256) if byte != 10]
        self.assertEqual(check(list(b"A -> B #") + remark), [0, 2, 1, 2])
        self.assertEqual(check([35] + remark + list(b"\nA")), wrong_in(1))

    def test_that_takes_away_what_a_line_needs(self):
        for text in ("A # -> B", "A - # > B", "A -#> B", "A -> # B", "A -> B + # C", "A -> 2 # B", "A <#-> B"):
            self.wrong(text)


class Sides(CheckCase):

    def test_0_alone(self):
        self.right("0 -> A", 1, 1, 2)
        self.right("A -> 0", 1, 1, 2)
        self.right("0 -> 0", 0, 1, 1)
        self.right("0<->0", 0, 2, 1)

    def test_0_beside_terms(self):
        for side in ("0 + A", "A + 0", "0 + 0", "A + 0 + B", "0A", "0 A", "A 0", "0 0", "00", "0 +", "+ 0", "2 0"):
            self.wrong(side + " -> B")
            self.wrong("B -> " + side)

    def test_nothing_on_a_side(self):
        for text in ("->", "<->", "-> A", "<-> A", "A ->", "A <->", "  ->  ", "A ->   ", "  <-> A"):
            self.wrong(text)

    def test_a_plus_too_many(self):
        for side in ("+", "+ A", "A +", "A ++ B", "A + + B", "+ A + B", "A + B +", "+ +"):
            self.wrong(side + " -> C")
            self.wrong("C -> " + side)

    def test_a_plus_too_few(self):
        self.wrong("A 2B -> C")
        self.wrong("A B -> C")

    def test_many_terms(self):
        self.right("A + 2B + 3 C + D -> E + F", 6, 1, 2)


class Numbers(CheckCase):

    def test_from_1_to_99(self):
        for number in range(1, 100):
            self.right("%dA -> B" % number, 2, 1, 2)
            self.right("B -> %d A" % number, 2, 1, 2)

    def test_0_and_above_99(self):
        for number in (0, 100, 101, 110, 199, 256, 300, 999, 1000, 4294967297, 10 ** 30 + 1):
            self.wrong("%dA -> B" % number)
            self.wrong("B -> %d A" % number)

    def test_with_a_0_in_front(self):
        for number in ("00", "01", "09", "010", "099", "001"):
            self.wrong(number + "A -> B")
            self.wrong("B -> " + number + " A")

    def test_without_a_name(self):
        for side in ("1", "2", "99", "2 + A", "A + 2"):
            self.wrong(side + " -> B")
            self.wrong("B -> " + side)

    def test_two_of_them(self):
        self.wrong("2 2A -> B")
        self.wrong("2 3 A -> B")

    def test_of_other_forms(self):
        for term in ("+2A", "-2A", "-A", "2.5A", "2*A", "2,A", "(2)A", "A2 2", "2+A"):
            self.wrong(term + " -> B")
            self.wrong("B -> " + term)

    def test_each_digit_counts(self):
        for number in range(2, 100):
            same = " + ".join(["A"] * number)
            self.right("%dA -> %s" % (number, same), 1, 1, 1)
            self.right("%dA -> %dA" % (number, number - 1), 1, 1, 2)

    def test_a_number_1_is_as_none(self):
        self.right("1A -> A", 1, 1, 1)


class Names(CheckCase):

    def test_of_1_16_and_17_bytes(self):
        for length in range(1, 17):
            self.right("A" * length + " -> b", 2, 1, 2)
            self.right("b -> 99" + "A" * length, 2, 1, 2)
        for length in (17, 18, 100):
            self.wrong("A" * length + " -> b")
            self.wrong("b -> 2" + "A" * length)

    def test_of_16_bytes_differ_by_the_last(self):
        self.right("A" * 15 + "B -> " + "A" * 15 + "C", 2, 1, 2)

    def test_with_digits_and_underscores(self):
        self.right("A1 + b_2 -> C__ + D09_z9", 4, 1, 2)
        self.right("H2O -> 2 H2O2", 2, 1, 2)

    def test_that_begin_with_an_underscore(self):
        self.wrong("_A -> B")
        self.wrong("A -> 2_B")
        self.wrong("_ -> B")

    def test_that_begin_with_a_digit(self):
        for text in ("2 1A -> B", "12 3A -> B", "0A -> B", "A -> 2 2B"):
            self.wrong(text)
        # With nothing between, the digits are a number in front of the name.
        self.right("2A -> A + A", 1, 1, 1)

    def test_every_letter_begins_a_name_and_nothing_else_does(self):
        for byte in range(256):
            answer = check([byte] + list(b" -> b"))
            with self.subTest(byte=byte):
                if ord("A") <= byte <= ord("Z") or ord("a") <= byte <= ord("z"):
                    self.assertEqual(answer, [0, 1 if byte == ord("b") else 2, 1, 1 if byte == ord("b") else 2])
                elif byte == ord("0"):
                    self.assertEqual(answer, [0, 1, 1, 2])
                elif byte == ord("#"):
                    self.assertEqual(answer, [0, 0, 0, 0])
                elif byte == 10:
                    self.assertEqual(answer, wrong_in(1))
                else:
                    self.assertEqual(answer, wrong_in(0))

    def test_every_byte_within_a_name(self):
        for byte in range(256):
            answer = check(list(b"0 -> a") + [byte] + list(b"b"))
            with self.subTest(byte=byte):
                if byte < 128 and (bytes([byte]).isalnum() or byte == ord("_")):
                    self.assertEqual(answer, [0, 1, 1, 2])
                elif byte == ord("+"):
                    self.assertEqual(answer, [0, 2, 1, 2])
                elif byte == ord("#"):
                    self.assertEqual(answer, [0, 1, 1, 2])
                elif byte == 10:
                    self.assertEqual(answer, wrong_in(1))
                else:
                    self.assertEqual(answer, wrong_in(0))

    def test_bytes_above_127(self):
        for byte in range(128, 256):
            for text in ([byte], [byte] + list(b" -> A"), list(b"A -> ") + [byte], list(b"A") + [byte] + list(b"-> B")):
                with self.subTest(text=text):
                    self.assertEqual(check(text), wrong_in(0))


class NamesMoreThanOnce(CheckCase):

    def test_numbers_are_added(self):
        self.right("A + A -> 2A", 1, 1, 1)
        self.right("A + 2B + 3A -> 4A + B + B", 2, 1, 1)
        self.right("A + A -> A", 1, 1, 2)

    def test_99_in_all_is_right(self):
        for side in ("98A + A", "A + 98A", "50A + 49A", "33A + 33A + 33A", " + ".join(["A"] * 99)):
            self.right(side + " -> 99A", 1, 1, 1)
            self.right("99A -> " + side, 1, 1, 1)

    def test_100_in_all_is_wrong(self):
        for side in ("99A + A", "A + 99A", "50A + 50A", "34A + 33A + 33A", "99A + B + A", " + ".join(["A"] * 100)):
            self.wrong(side + " -> B")
            self.wrong("B -> " + side)
            self.wrong("A -> B\n\n" + side + " <-> B\nA -> B", 2)

    def test_each_substance_and_each_side_by_itself(self):
        self.right("99A + 99B -> 99A + 99C", 3, 1, 2)
        self.right("99A -> 0\n99A -> B", 2, 2, 3)


class Arrows(CheckCase):

    def test_none(self):
        for text in ("A", "0", "A + B", "A B", "2", "A = B", "+"):
            self.wrong(text)

    def test_two(self):
        for text in ("A -> B -> C", "A <-> B <-> C", "A -> -> B", "A ->-> B", "A <->-> B", "A -> B <-> C",
                     "A -><- B", "-> A ->", "A -> <-> B"):
            self.wrong(text)

    def test_broken(self):
        for text in ("A - B", "A > B", "A < B", "A <- B", "A <> B", "A >- B", "A --> B", "A <--> B", "A ->> B",
                     "A <<-> B", "A <->> B", "A => B", "A <=> B", "A - > B", "A -", "A <", "A -<> B", "A >-> B",
                     "A -> B >", "A -> < B", "< A -> B", "A -> B -", "- A -> B", "A-B -> C", "A -> B-C"):
            self.wrong(text)


class Limits(CheckCase):

    def test_24_and_25_substances_a_line_each(self):
        lines = ["0 -> " + name for name in distinct_names(24)]
        self.right("\n".join(lines), 24, 24, 25)
        lines = ["%s -> %s" % (name, name + "x") for name in distinct_names(12)]
        self.right("\n".join(lines), 24, 12, 24)
        self.wrong("\n".join(lines + ["# full", "s0 -> s1", "s0 -> more", "s0"]), 14)
        self.wrong("\n".join(lines + ["more -> s0"]), 12)

    def test_24_and_25_substances_on_one_line(self):
        self.right(" + ".join(distinct_names(24)) + " -> 0", 24, 1, 2)
        self.wrong(" + ".join(distinct_names(25)) + " -> 0")
        self.right(" + ".join(distinct_names(23)) + " -> last", 24, 1, 2)
        self.wrong("\n" + " + ".join(distinct_names(24)) + " -> last\n", 1)

    def test_substances_again_are_not_counted_again(self):
        side = " + ".join(distinct_names(24))
        self.right(side + " -> " + side + "\n" + side + " <-> 0", 24, 3, 2)

    def test_a_substance_in_a_remark_is_not_counted(self):
        self.right(" + ".join(distinct_names(24)) + " -> 0 # more -> most", 24, 1, 2)

    def test_24_and_25_reactions(self):
        self.right("A -> B\n" * 24, 2, 24, 2)
        self.wrong("A -> B\n" * 25, 24)
        self.wrong("A -> B\n" * 30, 24)
        self.wrong("\n" + "A -> B\n\n" * 25, 49)

    def test_both_ways_counts_as_two(self):
        self.right("A <-> B\n" * 12, 2, 24, 2)
        self.wrong("A <-> B\n" * 13, 12)
        self.wrong("A <-> B\n" * 12 + "A -> B", 12)
        self.right("A -> B\n" * 22 + "A <-> B", 2, 24, 2)
        self.wrong("A -> B\n" * 23 + "A <-> B", 23)
        self.wrong("A -> B\n" * 24 + "A <-> B", 24)

    def test_lines_without_reactions_behind_the_24th(self):
        self.right("A -> B\n" * 24 + "\n  \n# A -> B\n", 2, 24, 2)
        self.wrong("A -> B\n" * 24 + "\nA\n", 25)


class Mixes(CheckCase):

    def test_in_another_order(self):
        self.right("A + B -> C\nB + A -> D", 4, 2, 3)
        self.right("A + 2B + 3C -> 3C + A + 2B", 3, 1, 1)

    def test_with_a_name_twice(self):
        self.right("2A -> B\nA + A -> C", 3, 2, 3)
        self.right("A + B + A -> B + 2A", 2, 1, 1)

    def test_with_other_blanks(self):
        self.right("2A+B -> C\n  2   A  +  B  -> D", 4, 2, 3)

    def test_with_other_numbers(self):
        self.right("A -> 2A\n2A -> 3A\n3A -> A", 1, 3, 3)
        self.right("A + 2B -> 2A + B", 2, 1, 2)

    def test_the_empty_side_is_one(self):
        self.right("0 -> A\nB -> 0\n0 -> C", 3, 3, 4)
        self.right("0 -> 0", 0, 1, 1)

    def test_on_both_sides_of_reactions(self):
        self.right("A -> B\nB -> C\nC -> A", 3, 3, 3)
        self.right("A + B -> C\nC -> B + A", 3, 2, 2)
        self.right("A -> B\nB -> A\nA <-> B", 2, 4, 2)

    def test_told_before_all_substances_were_known(self):
        self.right("A -> 0\nB -> C + D\nA -> D", 4, 3, 5)

    def test_the_most_there_may_be(self):
        lines = ["%dA -> %dB" % (k, k) for k in range(1, 25)]
        self.right("\n".join(lines), 2, 24, 48)


class LongTexts(CheckCase):

    def test_2000_bytes_of_a_right_text(self):
        reactions = "".join("%dA + B <-> %d C\n" % (k, k) for k in range(1, 13))
        text = reactions + "# " + "x" * (2000 - len(reactions) - 3) + "\n"
        self.assertEqual(len(text), 2000)
        self.right(text, 3, 24, 24)

    def test_2000_bytes_that_end_in_a_wrong_line(self):
        self.wrong("A -> B".ljust(1998) + "\nA", 1)
        self.wrong("A" * 2000)
        self.wrong("1" * 2000)
        self.wrong("+" * 2000)

    def test_2000_bytes_that_say_nothing(self):
        for byte in " \n#":
            self.right(byte * 2000, 0, 0, 0)

    def test_2000_bytes_on_one_line(self):
        text = " + ".join(["A", "B"] * 90)
        text = text + " -> 0"
        self.right(text.ljust(2000), 2, 1, 2)


class NothingIsKeptOrChanged(CheckCase):

    TEXTS = ("", "A + A -> 2A # same\n\n0 <-> B\n", "A -> B\n\nA ->\n", "A -> B\n" * 25, "  # only\n")

    def test_the_list_handed_in_stays_as_it_was(self):
        for text in self.TEXTS:
            handed = list(text.encode("latin-1"))
            check(handed)
            self.assertEqual(handed, list(text.encode("latin-1")))

    def test_the_list_is_not_changed_for_a_while_either(self):
        for text in self.TEXTS:
            self.assertEqual(check(ReadOnly(text.encode("latin-1"))), check_text(text))

    def test_a_second_call_answers_the_same(self):
        first = [check_text(text) for text in self.TEXTS]
        again = [check_text(text) for text in reversed(self.TEXTS)]
        self.assertEqual(first, list(reversed(again)))
        handed = list(b"A -> B")
        self.assertEqual(check(handed), check(handed))

    def test_each_answer_is_a_list_of_its_own(self):
        for text in self.TEXTS:
            answer = check_text(text)
            kept = list(answer)
            answer.append(7)
            self.assertEqual(check_text(text), kept)

    def test_nothing_is_printed(self):
        printed = io.StringIO()
        with contextlib.redirect_stdout(printed), contextlib.redirect_stderr(printed):
            for text in self.TEXTS:
                check_text(text)
        self.assertEqual(printed.getvalue(), "")


if __name__ == "__main__":
    unittest.main()
