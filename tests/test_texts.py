"""tower_text and parse_tower."""

import random
import re
import unittest

from basketrope.errors import BadText
from basketrope.texts import parse_tower, tower_text
from basketrope.towers import is_tower
from tests.raising import check_raises
from tests.samples import answer_twice, odd_values

TOP = 10 ** 6
TOWERS = (
    (1, ()), (TOP, ()), (1, (1, 3)), (4, (3, 4, 9, 20)), (TOP, (TOP,)), (10, (10, 100, 1000)),
    (TOP, (TOP,) * 24), (1, (1,) * 24), (7, tuple(range(24, 0, -1))),
)
TEXTS = ("1 / -", "1 / 1,3", "4 / 3,4,9,20", "1000000 / 1000000", "10 / 100,1,20", "12 / 7")


def is_numeral(word):
    """Tell whether the word is a number from 1 to a million as the document writes it."""
    return re.fullmatch("[1-9][0-9]*", word) is not None and (len(word) < 7 or word == "1000000")


def plain_error(text):
    """Return the index that BadText has for the text, or None if it is the text of a tower."""
    words = text.split(" ")
    if not is_numeral(words[0]):
        return 0
    if len(words) < 2 or words[1] != "/":
        return 1
    if len(words) < 3:
        return 2
    parts = words[2].split(",")
    if words[2] != "-" and (len(parts) > 24 or not all([is_numeral(part) for part in parts])):
        return 2
    return None if len(words) == 3 else 3


class Written(unittest.TestCase):
    def test_texts(self):
        self.assertEqual(answer_twice(self, tower_text, (1, (1, 3))), "1 / 1,3")
        self.assertEqual(answer_twice(self, tower_text, (1, ())), "1 / -")
        self.assertEqual(answer_twice(self, tower_text, (TOP, (TOP,))), "1000000 / 1000000")
        self.assertEqual(answer_twice(self, tower_text, (4, (20, 3, 9, 4))), "4 / 20,3,9,4")
        self.assertEqual(tower_text((12, (5,) * 24)), "12 / 5" + ",5" * 23)

    def test_there_and_back(self):
        draw = random.Random(1)
        towers = list(TOWERS)
        for people in range(25):
            for most in (9, 100, TOP):
                towers.append((draw.randint(1, most), tuple([draw.randint(1, most) for _ in range(people)])))
        for tower in towers:
            text = answer_twice(self, tower_text, tower)
            self.assertIsNone(plain_error(text), text)
            self.assertEqual(repr(answer_twice(self, parse_tower, text)), repr(tower))


class Read(unittest.TestCase):
    def check(self, text, expected):
        """Check that the text is not one of a tower, with the index of the first wrong word."""
        self.assertEqual(plain_error(text), expected, text)
        check_raises(self, BadText, expected, parse_tower, text)

    def check_as_plain(self, text):
        """Check what the text is read as against a plain reading."""
        expected = plain_error(text)
        if expected is None:
            tower = parse_tower(text)
            self.assertTrue(is_tower(tower))
            self.assertEqual(tower_text(tower), text)
        else:
            check_raises(self, BadText, expected, parse_tower, text)

    def test_towers(self):
        self.assertEqual(repr(parse_tower("1 / 1,3")), "(1, (1, 3))")
        self.assertEqual(repr(parse_tower("1 / -")), "(1, ())")
        self.assertEqual(repr(parse_tower("1000000 / 1000000,1")), "(1000000, (1000000, 1))")
        self.assertEqual(repr(parse_tower("20 / 5")), "(20, (5,))")

    def test_one_character_put_in_left_out_or_replaced(self):
        for text in TEXTS:
            for at in range(len(text) + 1):
                self.check_as_plain(text[:at] + text[at + 1:])
                for character in " ,/-+_.019\n\tx\u0660\u00b2":
                    self.check_as_plain(text[:at] + character + text[at:])
                    self.check_as_plain(text[:at] + character + text[at + 1:])

    def test_numbers_at_and_beyond_the_bounds(self):
        for word in ("0", "1000001", "9999999", "10000000", "99999999", "100000000", "00", "01", "1" * 8, "1" * 9):
            self.check(f"{word} / 1", 0)
            self.check(f"1 / {word}", 2)
            self.check(f"1 / 1,{word}", 2)
            self.check(f"1 / {word},1", 2)

    def test_signs_zeros_and_other_ways_to_write_numbers(self):
        for word in ("+1", "-1", "01", "001", "1_0", "1.0", "1e2", "0x1", "1,", ",1", "", "one", "- 1", "1\n", "\n1"):
            self.check(f"{word} / 1", 0)
        for word in ("+1", "-1", "01", "001", "1_0", "1.0", "1e2", "0x1", "", "one", "1\n", "\n1", "\t1"):
            self.check(f"1 / 2,{word},3", 2)
            self.check(f"1 / {word}", 2)

    def test_digits_that_are_not_ascii(self):
        for digit in ("\u0661", "\u0967", "\uff11", "\u00b9", "\u00b2", "\u2460", "\u00bd", "\u4e00"):
            for word in (digit, "1" + digit, digit + "1"):
                self.check(f"{word} / 1", 0)
                self.check(f"1 / {word}", 2)
                self.check(f"1 / 1,{word}", 2)

    def test_very_long_numbers(self):
        for digits in (40, 1990, 4300, 4301, 10000):
            for digit in ("1", "9", "0"):
                self.check(f"{digit * digits} / 1", 0)
                self.check(f"1 / {digit * digits}", 2)
                self.check(f"1 / 1,{digit * digits}", 2)

    def test_many_weights(self):
        self.assertEqual(parse_tower("1 / 2" + ",2" * 22), (1, (2,) * 23))
        self.assertEqual(parse_tower("1 / 2" + ",2" * 23), (1, (2,) * 24))
        self.check("1 / 2" + ",2" * 24, 2)
        self.check("1 / 2" + ",2" * 900, 2)

    def test_hyphens_and_commas(self):
        for word in ("-,1", "1,-", "-,-", "--", ",", "1,,2", ",1", "1,", "1-2", "1;2", "1,2,", "(1,2)", "/"):
            self.check(f"1 / {word}", 2)
        self.check("- / 1", 0)
        self.check("- / -", 0)

    def test_the_word_between(self):
        for word in ("", "//", "-", "1", "\\", "|", "/,", "1/", "/\n", ":"):
            self.check(f"1 {word} 1", 1)
        self.check("1/1", 0)
        self.check("1 /1", 1)
        self.check("1/ 1", 0)

    def test_spaces(self):
        self.check(" 1 / 1", 0)
        self.check("1  / 1", 1)
        self.check("1 /  1", 2)
        self.check("1 / 1 ", 3)
        self.check("1 / 1  ", 3)
        self.check("1 / 1, 2", 2)
        self.check("1 / 1 ,2", 3)
        self.check("1 / - ", 3)
        self.check(" ", 0)
        self.check("  ", 0)
        self.check("   ", 0)
        for other in ("\t", "\n", "\u00a0", "\r"):
            self.check(f"1{other}/{other}1", 0)
            self.check(f"1 /{other}1", 1)
            self.check(f"1 / 1{other}", 2)

    def test_fewer_words(self):
        self.check("", 0)
        self.check("1", 1)
        self.check("0", 0)
        self.check("/", 0)
        self.check("1 /", 2)
        self.check("1 -", 1)
        self.check("0 /", 0)
        self.check("1 ", 1)
        self.check("1 / ", 2)

    def test_more_words(self):
        self.check("1 / 1 1", 3)
        self.check("1 / - /", 3)
        self.check("1 / 1 1 1 1", 3)
        self.check("1 / 1   ", 3)

    def test_the_first_wrong_word(self):
        self.check("0 - 0 0", 0)
        self.check("1 - 0 0", 1)
        self.check("1 / 0 0", 2)
        self.check("1 / 1 0", 3)

    def test_values_that_are_no_texts(self):
        for value in [*odd_values(), (1, (1, 3)), [1, [1, 3]], ("1", "/", "1"), ["1 / 1"], ("1 / 1",)]:
            if not isinstance(value, str):
                check_raises(self, BadText, None, parse_tower, value)
            else:
                self.check_as_plain(value)


if __name__ == "__main__":
    unittest.main()
