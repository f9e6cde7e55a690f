"""Point 13: the deeds of trees, doing them, and those that are refused."""

import unittest
from copy import deepcopy

from mendread.deeds import deeds_of, done
from mendread.errors import BadDeeds
from mendread.mending import mend
from mendread.trees import cost_of, mended
from tests.grammars import drawn_grammars, drawn_text, small_grammars
from tests.refusing import Refusing
from tests.slow import all_trees
from tests.things import NO_SIGNS, NO_TUPLES, SIGNS, Prickly
from tests.trees import FORKS, LEAVES

# No places, nor equal to one that is next.
NO_PLACES = [None, 2.5, float("nan"), "", "0", "a", b"a", (), (0,), [], [0], {}, {0: 1}, object(), len, Prickly()]


class TheDeedsOfTrees(unittest.TestCase):
    def test_trees_by_hand(self):
        for tree, text, _, _, _, deeds in LEAVES + FORKS:
            with self.subTest(tree=tree):
                told = deeds_of(tree, text)
                self.assertEqual(told, deeds)
                self.assertEqual({type(told), *map(type, told)}, {list, tuple})

    def test_done_they_are_the_mended_text(self):
        for tree, text, stretch, told, _, _ in LEAVES + FORKS:
            if stretch == (0, len(text)):
                with self.subTest(tree=tree):
                    self.assertEqual(done(text, deeds_of(tree, text)), told)

    def test_all_trees_of_small_grammars(self):
        for at, rules in enumerate([*small_grammars(3), *drawn_grammars(10, "abc", "xy", 21)]):
            text = ("", "x", "zx", "yx")[at % 4]
            for tree in all_trees(rules, text, rules[0][0], 0, len(text), 1):
                deeds = deeds_of(tree, text)
                self.assertEqual(done(text, deeds), mended(tree))
                self.assertEqual(len([deed for deed in deeds if deed[0] != "keep"]), cost_of(tree, text))
                self.assertEqual([deed[1] for deed in deeds if deed[0] != "put"], list(range(len(text))))

    def test_the_told_list_is_the_askers_own(self):
        for tree, text, _, _, _, deeds in LEAVES + FORKS:
            told = deeds_of(tree, text)
            told.clear()
            told.append(("put", 0, "q"))
            self.assertEqual(deeds_of(tree, text), deeds)


class Doing(unittest.TestCase):
    def test_by_hand(self):
        for text, deeds, behind in [
            ("", [], ""),
            ("", [("put", 0, "x")], "x"),
            ("", [("put", 0, "x"), ("put", 0, "y"), ("put", 0, "x")], "xyx"),
            ("a", [("keep", 0)], "a"),
            ("a", [("cut", 0)], ""),
            ("a", [("change", 0, "b")], "b"),
            ("a", [("change", 0, "a")], "a"),
            ("a", [("put", 0, "x"), ("keep", 0), ("put", 1, "y"), ("put", 1, "z")], "xayz"),
            ("a", [("put", 0, "x"), ("cut", 0)], "x"),
            ("a", [("cut", 0), ("put", 1, "x")], "x"),
            ("abc", [("keep", 0), ("keep", 1), ("keep", 2)], "abc"),
            ("abc", [("cut", 0), ("cut", 1), ("cut", 2)], ""),
            ("abc", [("cut", 0), ("keep", 1), ("put", 2, " "), ("change", 2, "~")], "b ~"),
        ]:
            with self.subTest(text=text, deeds=deeds):
                self.assertEqual(done(text, deeds), behind)
                self.assertIs(type(done(text, deeds)), str)

    def test_each_sign(self):
        for sign in SIGNS:
            self.assertEqual(done("a" + sign, [("put", 0, sign), ("change", 0, sign), ("keep", 1)]), sign * 3)

    def test_a_text_behind_them_may_be_longer_than_a_text(self):
        puts = [("put", 0, "x")] * 1000
        self.assertEqual(done("", puts), "x" * 1000)
        keeps = [("keep", place) for place in range(40)]
        self.assertEqual(done("y" * 40, puts + keeps + [("put", 40, "z")] * 100), "x" * 1000 + "y" * 40 + "z" * 100)

    def test_what_is_handed_in_is_not_changed(self):
        for tree, text, _, _, _, deeds in LEAVES + FORKS:
            before = deepcopy((tree, deeds))
            deeds_of(tree, text)
            try:
                done(text, deeds)
            except BadDeeds:
                pass
            self.assertEqual((tree, deeds), before)
        for deeds in ([["keep", 0]], [("put", 0, ["x"])], [[], {}, ("keep", 1)], [("cut", 0), ("keep", 0)]):
            before = deepcopy(deeds)
            with self.assertRaises(BadDeeds):
                done("x", deeds)
            self.assertEqual(deeds, before)


class BadOnes(Refusing):
    def refused(self, text, *deeds):
        self.just(BadDeeds, done, text, list(deeds))

    def refused_anywhere(self, deed):
        """The deed is refused ahead of, between and behind good ones."""
        self.refused("", deed)
        self.refused("x", deed)
        self.refused("x", deed, ("keep", 0))
        self.refused("x", ("keep", 0), deed)
        self.refused("xy", ("put", 0, "z"), deed, ("cut", 1))

    def test_what_is_no_tuple(self):
        for at, thing in enumerate([*NO_TUPLES, ["keep", 0], ["cut", 0], ["put", 0, "x"], ["change", 0, "x"], "keep",
                                    {"keep": 0}, {0: "keep"}, "keep0"]):
            with self.subTest(at=at):
                self.refused_anywhere(thing)

    def test_another_word(self):
        words = ["", "Keep", "KEEP", "keep ", " keep", "kee", "keeps", "k", "puts", "pu", "insert", "delete", "x", "a",
                 "change ", "cuts", "Cut", b"keep", b"put", None, True, False, 0, 1, 2.5, (), ("keep",), ("put",), [],
                 ["keep"], ["cut"], {}, {"put": 0}, {"cut"}, object(), str, Prickly()]
        for at, word in enumerate(words):
            with self.subTest(at=at):
                for place in (0, 1):
                    self.refused_anywhere((word, place))
                    self.refused_anywhere((word, place, "x"))

    def test_a_part_too_few_or_too_many(self):
        for place in (0, 1):
            for deed in [(), ("keep",), ("put",), ("change",), ("cut",), (place,), ("put", place), ("change", place),
                         ("put", "x"), ("change", "x"), ("keep", place, "x"), ("cut", place, "x"),
                         ("keep", place, place), ("keep", place, None), ("cut", place, None), ("put", place, "x", "x"),
                         ("put", place, "x", None), ("change", place, "x", "x"), ("put", place, place, "x"),
                         ("keep", place, "x", "x"), ("cut", place, "x", "x"), (("keep", place),), (place, "keep"),
                         ("x", place, "put"), ("put", "x", place)]:
                with self.subTest(deed=deed):
                    self.refused_anywhere(deed)

    def test_a_place_that_is_not_the_next_one(self):
        text = "xyz"
        for place in (-10 ** 30, -4, -3, -2, -1, 0, 1, 2, 3, 4, 5, 10 ** 30):
            for at in range(4):
                ahead = [("keep", before) for before in range(at)]
                behind = [("keep", after) for after in range(at + 1, 3)]
                for deed in [("keep", place), ("cut", place), ("change", place, "x")]:
                    if place != at or at == 3:
                        self.refused(text, *ahead, deed, *behind)
                if place != at:
                    self.refused(text, *ahead, ("put", place, "x"), *[("keep", after) for after in range(at, 3)])

    def test_a_place_twice_or_in_another_order(self):
        for one in [("keep", 0), ("cut", 0), ("change", 0, "x")]:
            for other in [("keep", 0), ("cut", 0), ("change", 0, "x"), ("put", 0, "x")]:
                self.refused("x", one, other)
                self.refused("xy", one, other, ("keep", 1))
        self.refused("xy", ("keep", 1), ("keep", 0))
        self.refused("xy", ("cut", 1), ("cut", 0))
        # A put does not use its place up.
        self.refused("xy", ("put", 0, "z"), ("keep", 1))
        self.refused("xy", ("put", 0, "z"), ("put", 1, "z"), ("keep", 0), ("keep", 1))
        self.refused("xy", ("put", 0, "z"), ("cut", 1))

    def test_what_is_no_place(self):
        for at, place in enumerate(NO_PLACES):
            with self.subTest(at=at):
                for deed in [("keep", place), ("cut", place), ("change", place, "x"), ("put", place, "x")]:
                    self.refused_anywhere(deed)

    def test_what_is_no_place_but_equal_to_one(self):
        for words in [("keep",), ("cut",)]:
            for place in (False, 0.0, -0.0):
                self.refused("x", (*words, place))
            for place in (True, 1.0):
                self.refused("xy", ("keep", 0), (*words, place))
        for word in ("put", "change"):
            for place in (False, 0.0):
                self.refused("x", (word, place, "y"))
                self.refused("x", (word, place, "y"), ("keep", 0))
            for place in (True, 1.0):
                self.refused("xy", ("keep", 0), (word, place, "y"))
                self.refused("xy", ("keep", 0), (word, place, "y"), ("keep", 1))

    def test_a_sign_that_is_none(self):
        for at, sign in enumerate(NO_SIGNS):
            with self.subTest(at=at):
                for place in (0, 1):
                    self.refused_anywhere(("put", place, sign))
                    self.refused_anywhere(("change", place, sign))

    def test_places_left_over(self):
        self.refused("x")
        self.refused("xyz")
        self.refused("x" * 40)
        self.refused("x", ("put", 0, "x"))
        for deed in [("keep", 0), ("cut", 0), ("change", 0, "z")]:
            self.refused("xy", deed)
            self.refused("xy", deed, ("put", 1, "y"))
            self.refused("xyz", deed, ("keep", 1))

    def test_behind_the_texts_end(self):
        for deed in [("keep", 0), ("cut", 0), ("change", 0, "z")]:
            self.refused("", deed)
            self.refused("", ("put", 0, "x"), deed)
        for deed in [("keep", 1), ("cut", 1), ("change", 1, "z")]:
            self.refused("x", ("keep", 0), deed)
            self.refused("x", ("cut", 0), ("put", 1, "x"), deed)
        for deed in [("keep", -1), ("cut", -1), ("change", -1, "z"), ("put", -1, "z")]:
            self.refused("", deed)
            self.refused("x", deed)
            self.refused("x", ("keep", 0), deed)
        self.refused("", ("put", 1, "x"))
        self.refused("x", ("keep", 0), ("put", 2, "x"))

    def test_the_deeds_of_a_tree_with_one_changed(self):
        for at, rules in enumerate(drawn_grammars(30, "abc", "xy", 22)):
            text = drawn_text("xyz", 1 + at % 6, at)
            deeds = deeds_of(mend(rules, text)[0], text)
            for number, deed in enumerate(deeds):
                ahead, behind = deeds[:number], deeds[number + 1:]
                if deed[0] != "put":
                    self.refused(text, *ahead, *behind)
                    self.refused(text, *ahead, deed, deed, *behind)
                for place in (deed[1] - 1, deed[1] + 1):
                    self.refused(text, *ahead, (deed[0], place, *deed[2:]), *behind)
                self.refused(text, *ahead, list(deed), *behind)
                self.refused(text, *ahead, deed + ("x",), *behind)


if __name__ == "__main__":
    unittest.main()
