"""Point 2: signs, names and texts; point 3: single rules."""

import unittest

from mendread.errors import BadText
from mendread.grammars import MOST_RULES, MOST_SIGNS, is_name, is_rule, is_sign, need_text
from tests.things import NO_NAMES, NO_SIGNS, NO_TEXTS, NO_TUPLES, SIGNS


class Numbers(unittest.TestCase):
    def test_the_limits(self):
        self.assertEqual((MOST_RULES, MOST_SIGNS), (40, 40))


class Signs(unittest.TestCase):
    def test_each_ascii_sign_from_the_blank_on(self):
        self.assertEqual(len(SIGNS), 94)
        for sign in SIGNS:
            with self.subTest(sign=sign):
                self.assertIs(is_sign(sign), True)

    def test_no_other_number_is_a_signs(self):
        for number in [*range(32), 37, *range(127, 1000)]:
            with self.subTest(number=number):
                self.assertIs(is_sign(chr(number)), False)

    def test_things_that_are_no_signs(self):
        for at, thing in enumerate(NO_SIGNS):
            with self.subTest(at=at):
                self.assertIs(is_sign(thing), False)


class Names(unittest.TestCase):
    def test_each_letter(self):
        for letter in "abcdefghijklmnopqrstuvwxyz":
            with self.subTest(letter=letter):
                self.assertIs(is_name(letter), True)

    def test_each_length(self):
        for many in range(20):
            with self.subTest(many=many):
                self.assertIs(is_name("z" * many), 1 <= many <= 12)

    def test_a_wrong_letter_at_each_place(self):
        for wrong in ("A", "1", " ", "_", "\u00e9", "`", "{"):
            for at in range(12):
                with self.subTest(wrong=wrong, at=at):
                    self.assertIs(is_name("a" * at + wrong + "a" * (11 - at)), False)

    def test_things_that_are_no_names(self):
        for at, thing in enumerate(NO_NAMES):
            with self.subTest(at=at):
                self.assertIs(is_name(thing), False)


class Texts(unittest.TestCase):
    def refused(self, thing):
        with self.assertRaises(BadText) as caught:
            need_text(thing)
        self.assertIs(type(caught.exception), BadText)

    def test_texts_of_each_length(self):
        for many in range(41):
            with self.subTest(many=many):
                self.assertEqual(need_text("~" * many), "~" * many)

    def test_texts_that_are_too_long(self):
        for many in (41, 42, 80, 1000):
            with self.subTest(many=many):
                self.refused("a" * many)

    def test_a_text_of_each_sign(self):
        for sign in SIGNS:
            with self.subTest(sign=sign):
                self.assertEqual(need_text(sign), sign)
                self.assertEqual(need_text("a" + sign + " "), "a" + sign + " ")

    def test_one_wrong_sign_at_each_place(self):
        for wrong in (chr(37), "\n", "\t", "\x7f", "\u00e9", "\U0001f600", "\ud800"):
            for many in (1, 2, 7, 40):
                for at in range(many):
                    with self.subTest(wrong=wrong, many=many, at=at):
                        self.refused("a" * at + wrong + "a" * (many - at - 1))

    def test_things_that_are_no_texts(self):
        for at, thing in enumerate(NO_TEXTS):
            with self.subTest(at=at):
                self.refused(thing)


class Rules(unittest.TestCase):
    def test_both_kinds(self):
        long = "abcdefghijkl"
        for rule in [("a", "x"), ("a", "a"), ("a", " "), (long, "~"), (long, "A"), ("a", "1"), ("a", "\\"),
                     ("a", "a", "a"), ("a", "b", "c"), (long, "z", long), ("z", long, long)]:
            with self.subTest(rule=rule):
                self.assertIs(is_rule(rule), True)

    def test_the_second_of_two_parts_is_a_sign(self):
        for part in NO_SIGNS:
            self.assertIs(is_rule(("a", part)), False)

    def test_the_first_of_two_parts_is_a_name(self):
        for part in NO_NAMES:
            self.assertIs(is_rule((part, "x")), False)

    def test_each_of_three_parts_is_a_name(self):
        for part in NO_NAMES:
            self.assertIs(is_rule((part, "b", "c")), False)
            self.assertIs(is_rule(("a", part, "c")), False)
            self.assertIs(is_rule(("a", "b", part)), False)

    def test_a_part_too_few_or_too_many(self):
        for rule in [(), ("a",), ("x",), ("a", "b", "c", "d"), ("a", "b", "c", "x"), ("a", "x", "x", "x"), ("a",) * 5]:
            with self.subTest(rule=rule):
                self.assertIs(is_rule(rule), False)

    def test_another_thing_than_a_tuple(self):
        for at, thing in enumerate(NO_TUPLES):
            with self.subTest(at=at):
                self.assertIs(is_rule(thing), False)


if __name__ == "__main__":
    unittest.main()
