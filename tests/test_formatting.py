"""Point [12]: pairedparts/formatting.py."""

import unittest
from itertools import product

from pairedparts.errors import ParseError
from pairedparts.formatting import format_partition, parse_partition
from tests.checks import Checks
from tests.listing import EVERY, text_of

PARTITION_OF_TEXT = {text_of(partition): partition for partition in EVERY}

NOT_TEXTS_OF_ONE = [
    # nothing, blanks and line ends
    "", " ", "\n", " 3", "3 ", "3 +1", "3+ 1", "3 + 1", "3+1\n", "\t3+1", " 0", "0 ", "\n0", "0\n", "3\n+1", "3+1\x00",
    # signs before parts, and other signs
    "-1", "+1", "-3+1", "3+-1", "3-1", "3++1", "3+1+", "+3+1", "+", "++", "+0", "-0", "0+", "--1", "3,1", "3;1", "3.1",
    "3*1", "3+1=4", "3_1", "1_0", "1_0+1", "(3+1)", "(3, 1)", "[3]", "'3'", "()",
    # leading zeros, and 0 as a part
    "00", "000", "01", "03+1", "3+01", "0+0", "3+0", "0+3", "3+1+0", "016", "3+1+00",
    # ascending parts
    "1+3", "1+2", "3+1+2", "2+4", "1+16", "9+10", "2+10",
    # a sum above 16
    "17", "16+1", "9+8", "+".join(["1"] * 17), "6+5+4+2", "100", "1" + "0" * 30, "99+1",
    # other writings of numbers
    "3.0", "1e0", "0x3", "0b1", "0o3", "three", "III", "x", "3+x", "x+1", "3a", "a3", "None", "True", "1L", "1j", "inf",
    # digits that are not 0 to 9, and other signs beyond ASCII
    "\u0663", "\u0663+\u0661", "\uff13", "\uff13+\uff11", "3+\uff11", "\uff10", "\u0660", "\u00b2", "\u2460", "\u00bd",
    "\u0967", "\u4e09", "\U0001d7d1", "3\uff0b1", "3\ufe621", "\u22123", "3\u00a0", "\u00a03", "3\u200b", "\ufeff3",
    "3\u20281", "\ud800", "3+\udfff",
    # very long texts
    "1" * 100000, "0" * 100000, "+" * 100000, "1+" * 100000, "1+" * 100000 + "1", "9" * 5000, "0+" * 50000 + "0",
    " " * 100000, "3+1" + " " * 100000, "+".join(["16"] * 10000), "3+" + "0" * 100000 + "1",
]

NOT_TEXTS = [
    None, True, False, 0, 1, 3, -1, 17, 10 ** 5000, 1j, b"", b"0", b"3", b"3+1", bytearray(b"3"), memoryview(b"3"),
    (), (3,), (3, 1), ("3", "1"), ("3",), ["3"], ["3", "1"], [], [3], {}, {"3": 1}, {"3"}, set(), frozenset(["3"]),
    range(3), iter("3"), object(), str, int, len,
]


class FormatPartitionTest(Checks):
    def test_examples(self):
        self.assertEqual(format_partition((4, 2, 1)), "4+2+1")
        self.assertEqual(format_partition(()), "0")
        self.assertEqual(format_partition((16,)), "16")
        self.assertEqual(format_partition((1,) * 16), "1+1+1+1+1+1+1+1+1+1+1+1+1+1+1+1")
        self.assertEqual(format_partition((10, 3, 3)), "10+3+3")

    def test_every_partition(self):
        for partition in EVERY:
            with self.subTest(partition=partition):
                self.assertIs(type(format_partition(partition)), str)
                self.assertEqual(format_partition(partition), text_of(partition))

    def test_other_values_are_refused(self):
        self.assert_refuses_what_is_no_partition(format_partition)
        self.assert_leaves_lists_alone(format_partition)


class ParsePartitionTest(Checks):
    def test_examples(self):
        self.assertEqual(parse_partition("4+2+1"), (4, 2, 1))
        self.assertEqual(parse_partition("0"), ())
        self.assertEqual(parse_partition("16"), (16,))
        self.assertEqual(parse_partition("+".join(["1"] * 16)), (1,) * 16)
        self.assertEqual(parse_partition("10+3+3"), (10, 3, 3))

    def test_every_partition_comes_back(self):
        for partition in EVERY:
            with self.subTest(partition=partition):
                found = parse_partition(format_partition(partition))
                self.assert_partition(found, sum(partition))
                self.assertEqual(found, partition)

    def check(self, text):
        """Check that text is parsed if it is the text of a partition, and refused otherwise."""
        if text in PARTITION_OF_TEXT:
            self.assertEqual(parse_partition(text), PARTITION_OF_TEXT[text], text)
            return
        try:
            parse_partition(text)
        except ParseError:
            return
        self.fail(f"{text!r} is the text of no partition")

    def test_every_short_text(self):
        for length in range(6):
            for signs in product("0126+- ", repeat=length):
                self.check("".join(signs))

    def test_every_text_one_sign_away(self):
        for text in PARTITION_OF_TEXT:
            for at in range(len(text) + 1):
                self.check(text[:at] + text[at + 1:])
                for sign in "0137+- _\n":
                    self.check(text[:at] + sign + text[at:])
                    self.check(text[:at] + sign + text[at + 1:])

    def test_other_texts_are_refused(self):
        for at, text in enumerate(NOT_TEXTS_OF_ONE):
            with self.subTest(at=at):
                self.assertNotIn(text, PARTITION_OF_TEXT)
                self.assert_raises_just(ParseError, parse_partition, text)

    def test_other_values_are_refused(self):
        for at, value in enumerate(NOT_TEXTS):
            with self.subTest(at=at):
                self.assert_raises_just(ParseError, parse_partition, value)
        self.assert_leaves_lists_alone(parse_partition)


if __name__ == "__main__":
    unittest.main()
