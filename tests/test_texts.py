"""Tests of the texts of piles ([1] and [15])."""

import copy
import random
import re
import unittest

from blockpiles import texts
from blockpiles.errors import InvalidPile, ParseError
from blockpiles.piles import is_pile
from blockpiles.texts import format_pile, parse_pile
from tests.samples import (
    ARCH, BOUNDS, BRIDGE, COUNTERWEIGHT, LOOSE, SEESAW, SURE,
    changed, drawn_piles, nested, odd_values, raised, row_of_blocks, wrong_piles,
)

KNOWN = [(), SURE, LOOSE, BRIDGE, COUNTERWEIGHT, SEESAW, ARCH, row_of_blocks(6)]
NUMBER = re.compile("0|-?[1-9][0-9]*", re.ASCII)
TEXT = "0 0 4 1 2; 2 1 4 1 2"


def slow_parse(text):
    """The pile with that text, or None, as [15] tells it."""
    if text == "nothing":
        return ()
    parts = [part.split(" ") for part in text.split("; ")]
    if not all(NUMBER.fullmatch(word) and len(word) < 9 for part in parts for word in part):
        return None
    blocks = tuple(tuple(int(word) for word in part) for part in parts)
    return blocks if is_pile(blocks) else None


def parsed(text):
    """The pile with that text, or None if ParseError is raised."""
    try:
        return parse_pile(text)
    except ParseError:
        return None


class FormatTest(unittest.TestCase):
    def test_example(self):
        self.assertEqual(format_pile(SURE), "0 0 4 1 2; 2 1 4 1 2")

    def test_without_blocks(self):
        self.assertEqual(format_pile(()), "nothing")

    def test_one_block_and_six(self):
        self.assertEqual(format_pile(SURE[:1]), "0 0 4 1 2")
        told = "-20 0 1 1 1; -18 0 2 1 2; -16 0 1 1 3; -14 0 2 1 4; -12 0 1 1 5; -10 0 2 1 6"
        self.assertEqual(format_pile(row_of_blocks(6)), told)

    def test_bounds(self):
        self.assertEqual(format_pile((tuple(least for least, _ in BOUNDS),)), "-20 0 1 1 1")
        self.assertEqual(format_pile((tuple(most for _, most in BOUNDS),)), "20 20 8 4 9")

    def test_in_the_order_of_the_blocks(self):
        self.assertEqual(format_pile(SURE[::-1]), "2 1 4 1 2; 0 0 4 1 2")

    def test_wrong_piles(self):
        for value in wrong_piles() + [TEXT, "nothing"]:
            self.assertIs(raised(format_pile, value), InvalidPile, value)

    def test_not_modified(self):
        pile = [list(block) for block in SURE]
        before = copy.deepcopy(pile)
        self.assertIs(raised(format_pile, pile), InvalidPile)
        self.assertIs(raised(parse_pile, pile), ParseError)
        self.assertEqual(pile, before)


class ParseTest(unittest.TestCase):
    def test_example(self):
        self.assertEqual(parse_pile("nothing"), ())

    def test_more_of_the_examples(self):
        self.assertEqual(parse_pile(TEXT), SURE)
        self.assertEqual(parse_pile("0 0 4 1 2"), SURE[:1])

    def test_texts_are_read_back(self):
        for pile in drawn_piles(400, 141) + KNOWN:
            told = parse_pile(format_pile(pile))
            self.assertEqual(told, pile)
            self.assertIs(type(told), tuple)
            self.assertTrue(all(type(block) is tuple for block in told))
            self.assertTrue(all(type(number) is int for block in told for number in block))

    def test_each_bound_and_one_beyond_it(self):
        block = (0, 0, 4, 1, 2)
        for at, (least, most) in enumerate(BOUNDS):
            for number in range(least - 3, most + 4):
                other = changed(block, at, number)
                text = " ".join(str(part) for part in other)
                if least <= number <= most:
                    self.assertEqual(parse_pile(text), (other,))
                else:
                    self.assertIs(raised(parse_pile, text), ParseError, text)

    def test_six_blocks_but_not_seven(self):
        for many in range(1, 9):
            text = "; ".join(" ".join(str(part) for part in block) for block in row_of_blocks(many))
            self.assertEqual(parsed(text), row_of_blocks(many) if many <= 6 else None)

    def test_no_point_inside_two_blocks(self):
        self.assertIs(raised(parse_pile, "0 0 4 1 2; 0 0 4 1 2"), ParseError)
        self.assertIs(raised(parse_pile, "0 0 4 2 2; 3 1 4 1 2"), ParseError)
        self.assertEqual(parse_pile("0 0 4 1 2; 4 0 4 1 2"), ((0, 0, 4, 1, 2), (4, 0, 4, 1, 2)))

    def test_signs(self):
        for text in ("+0 0 4 1 2", "-0 0 4 1 2", "0 -0 4 1 2", "0 0 +4 1 2", "--1 0 4 1 2", "- 1 0 4 1 2", "+1 0 4 1 2",
                     "-+1 0 4 1 2", "0 0 -4 1 2", "0 0 4 1 -2", "0 -1 4 1 2", "- 0 4 1 2", "\u22121 0 4 1 2"):
            self.assertIs(raised(parse_pile, text), ParseError, text)
        self.assertEqual(parse_pile("-1 0 4 1 2"), ((-1, 0, 4, 1, 2),))

    def test_zeros_ahead(self):
        for text in ("00 0 4 1 2", "0 00 4 1 2", "0 0 04 1 2", "0 0 4 1 02", "01 0 4 1 2", "-01 0 4 1 2", "000 0 4 1 2",
                     "0 0 4 1 2; 02 1 4 1 2", "0 0 4 1 2; 2 1 4 1 0002", "-020 0 4 1 2", "0 010 4 1 2"):
            self.assertIs(raised(parse_pile, text), ParseError, text)

    def test_blanks(self):
        for text in (" " + TEXT, TEXT + " ", TEXT + "\n", "\n" + TEXT, "\t" + TEXT, "0  0 4 1 2", "0 0 4 1  2",
                     "0\t0 4 1 2", "0 0 4 1\n2", "0\u00a00 4 1 2", "0 0 4 1 2;2 1 4 1 2", "0 0 4 1 2 ;2 1 4 1 2",
                     "0 0 4 1 2 ; 2 1 4 1 2",
                     "0 0 4 1 2;  2 1 4 1 2", "0 0 4 1 2;\n2 1 4 1 2", "0 0 4 1 2\n2 1 4 1 2", " nothing", "nothing ",
                     "nothing\n", "\nnothing", "", " ", "  ", "\n", "0 0 4 1 2\r", "0 0 4 1 2\x00", "0 0 4 1 2\x0b"):
            self.assertIs(raised(parse_pile, text), ParseError, text)

    def test_separators(self):
        for text in ("0 0 4 1 2; ", "; 0 0 4 1 2", "0 0 4 1 2;", ";0 0 4 1 2", ";", "; ", "; ; ",
                     "0 0 4 1 2; ; 2 1 4 1 2",
                     "0 0 4 1 2;; 2 1 4 1 2", "0 0 4 1 2, 2 1 4 1 2", "0,0,4,1,2", "0 0 4 1 2 2 1 4 1 2", "0 0 4 1; 2",
                     "(0, 0, 4, 1, 2)", "0 0 4 1 2: 2 1 4 1 2", "0 0 4 1 2\n", "0 0 4 1 2; 2 1 4 1 2; ", "00412"):
            self.assertIs(raised(parse_pile, text), ParseError, text)

    def test_too_many_and_too_few_integers(self):
        words = "0 0 4 1 2 1".split(" ")
        for many in range(7):
            self.assertEqual(parsed(" ".join(words[:many])), SURE[:1] if many == 5 else None)
            self.assertEqual(parsed("2 1 4 1 2; " + " ".join(words[:many])), SURE[::-1] if many == 5 else None)

    def test_nothing(self):
        for text in ("Nothing", "NOTHING", "nothin", "nothings", "nothing; nothing", "0 0 4 1 2; nothing", "None", "()",
                     "nothing; 0 0 4 1 2", "nothing;", "nothing; ", "; nothing", "'nothing'", "nothing nothing"):
            self.assertIs(raised(parse_pile, text), ParseError, text)

    def test_other_numbers(self):
        for text in ("0.0 0 4 1 2", "1e0 0 4 1 2", "0x1 0 4 1 2", "1_0 0 4 1 2", "a 0 4 1 2", "None 0 4 1 2",
                     "0 0 4 1 \u0662", "0 0 4 1 \uff12", "0 0 4 1 \u00b2", "0 0 4 1 " + "1" * 5000, "1" * 5000,
                     "0 0 4 1 100000000000000000000", "0 0 4 1 2 \U0001d7ce", "0 0 \u2463 1 2", "0 0 4 1 2" * 40):
            self.assertIs(raised(parse_pile, text), ParseError, text)

    def test_other_objects(self):
        values = [value for value in odd_values() if not isinstance(value, str)]
        for value in values + [0, 1, SURE, (), [TEXT], (TEXT,), TEXT.encode(), b"nothing", list(TEXT), {TEXT: 1}]:
            self.assertIs(raised(parse_pile, value), ParseError, value)
        for value in (nested(30), nested(30, list), 10 ** 5000, bytearray(b"nothing"), memoryview(b"nothing")):
            self.assertIs(raised(parse_pile, value), ParseError)

    def test_changed_texts(self):
        draw = random.Random(142)
        good = 0
        for pile in drawn_piles(250, 143) + KNOWN:
            text = format_pile(pile)
            for _ in range(12):
                at, end = draw.randrange(len(text) + 1), draw.randint(0, 2)
                more = draw.choice(("", "", "0", "1", "-", " ", ";", "; ", "+", "\n", "2"))
                other = text[:at] + more + text[at + end:]
                told = parsed(other)
                self.assertEqual(told, slow_parse(other), other)
                if told is not None:
                    self.assertEqual(format_pile(told), other)
                    good += other != text
        self.assertGreater(good, 100)


class InterfaceTest(unittest.TestCase):
    def test_defined_in_their_file(self):
        for name in ("format_pile", "parse_pile"):
            self.assertEqual(getattr(texts, name).__module__, "blockpiles.texts")

    def test_arguments_by_name(self):
        self.assertEqual(format_pile(pile=SURE), TEXT)
        self.assertEqual(parse_pile(text=TEXT), SURE)


if __name__ == "__main__":
    unittest.main()
