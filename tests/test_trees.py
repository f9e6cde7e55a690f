"""Points 5 to 8: trees told by hand, all trees of small grammars, things that are no trees, and deep ones."""

import unittest
from copy import deepcopy

from mendread.costs import costs
from mendread.deeds import deeds_of, done
from mendread.trees import cost_of, holds, mended, stretch_of
from tests.grammars import BRACKETS, drawn_grammars, drawn_text, small_grammars
from tests.slow import all_trees, count_of, slow_costs, stretches, what_it_is
from tests.things import NO_TUPLES, Prickly
from tests.trees import FORKS, LEAVES, RULES, leaning_both_ways, leaning_left, leaning_right, part_at, paths, with_part


class TreesByHand(unittest.TestCase):
    def test_where_they_lie(self):
        for tree, _, stretch, _, _, _ in LEAVES + FORKS:
            with self.subTest(tree=tree):
                told = stretch_of(tree)
                self.assertEqual(told, stretch)
                self.assertEqual([type(told), type(told[0]), type(told[1])], [tuple, int, int])

    def test_the_mended_text(self):
        for tree, _, _, text, _, _ in LEAVES + FORKS:
            with self.subTest(tree=tree):
                self.assertEqual(mended(tree), text)
                self.assertIs(type(mended(tree)), str)

    def test_what_they_cost(self):
        for tree, text, _, _, cost, _ in LEAVES + FORKS:
            with self.subTest(tree=tree):
                self.assertEqual(cost_of(tree, text), cost)
                self.assertIs(type(cost_of(tree, text)), int)

    def test_whether_they_hold(self):
        for tree, text, stretch, _, _, _ in LEAVES + FORKS:
            with self.subTest(tree=tree):
                of_the_top = tree[0] == "a"
                self.assertIs(holds(RULES, text, tree), of_the_top and stretch == (0, len(text)))

    def test_the_same_tree_over_another_text(self):
        tree = ("a", ("b", "x", 0, 1, 0), ("c", "z", 1, 2, 1))
        for text, cost in [("xz", 0), ("xx", 1), ("zz", 1), ("zx", 2), ("ab", 2)]:
            self.assertEqual(cost_of(tree, text), cost)
            self.assertIs(holds(RULES, text, tree), True)
        for text in ("", "x", "xzx", "xzxz"):
            self.assertIs(holds(RULES, text, tree), False)


class AllTrees(unittest.TestCase):
    def test_of_small_grammars(self):
        for at, rules in enumerate([*small_grammars(3), *drawn_grammars(10, "abc", "xy", 11)]):
            text = ("", "x", "zx", "yx")[at % 4]
            table = slow_costs(rules, text)
            for name, begin, end in table:
                for tree in all_trees(rules, text, name, begin, end, 1):
                    self.assertEqual(stretch_of(tree), (begin, end))
                    cost = cost_of(tree, text)
                    self.assertEqual(cost, count_of(tree, text))
                    self.assertGreaterEqual(cost, table[name, begin, end])
                    good = (name, begin, end) == (rules[0][0], 0, len(text))
                    self.assertIs(holds(rules, text, tree), good, (rules, text, tree))

    def test_the_cheapest_costs_what_the_table_has(self):
        for rules in small_grammars(2):
            for text in ("", "x", "yx"):
                table = costs(rules, text)
                for name, begin, end in table:
                    trees = all_trees(rules, text, name, begin, end, 2)
                    least = min(cost_of(tree, text) for tree in trees)
                    self.assertEqual(least, table[name, begin, end], (rules, text, name, begin, end))


class NoTrees(unittest.TestCase):
    def holds_just_where_it_is_one(self, rules, text, thing):
        is_one = what_it_is(rules, text, thing) == (rules[0][0], 0, len(text))
        self.assertIs(holds(rules, text, thing), is_one)
        return is_one

    def refused(self, text, *trees):
        for tree in trees:
            self.assertIs(holds(RULES, text, tree), False, tree)

    def test_things_of_any_kind(self):
        for thing in [*NO_TUPLES, (), ("a",), ("a", "x"), (Prickly(),) * 3, (Prickly(),) * 5,
                      ("a", Prickly(), Prickly()), ("a", Prickly(), 0, 0, None), ("a", "x", Prickly(), 0, None),
                      ("a", "x", 0, Prickly(), None),
                      ("a", "x", 0, 0, Prickly()), (["a"], "x", 0, 0, None), ({}, {}, {}), ([], [], [], [], []),
                      ("a", ["x"], 0, 0, None), ("a", "x", [0], 0, None), ("a", "x", 0, {}, None),
                      ("a", "x", 0, 0, []), ((), (), ()), ((), (), (), (), ()), ("a", (), ()), (None,) * 5, (0,) * 3]:
            self.assertIs(holds(RULES, "", thing), False)
            self.assertIs(holds(RULES, "x", thing), False)

    def test_leaves(self):
        self.assertIs(holds(RULES, "xyx", ("a", "x", 0, 3, 1)), True)
        # A name or a sign without such a rule.
        self.refused("xyx", ("b", "x", 0, 3, 1), ("c", "z", 0, 3, 1), ("d", "x", 0, 3, 1), ("a", "y", 0, 3, 1),
                     ("a", "z", 0, 3, 1), ("a", "", 0, 3, 1), ("a", "xx", 0, 3, 1), ("", "x", 0, 3, 1),
                     ("A", "x", 0, 3, 1), ("x", "a", 0, 3, 1), ("a", "b", 0, 3, 1))
        # A begin or an end.
        self.refused("xyx", ("a", "x", 1, 3, 1), ("a", "x", -1, 3, 1), ("a", "x", 0, 2, 1), ("a", "x", 0, 4, 1),
                     ("a", "x", 0, -1, 1), ("a", "x", 0, 0, None), ("a", "x", 3, 3, None), ("a", "x", 3, 0, 1),
                     ("a", "x", None, 3, 1), ("a", "x", 0, None, 1), ("a", "x", 0.0, 3, 1), ("a", "x", 0, 3.0, 1),
                     ("a", "x", False, 3, 1), ("a", "x", "0", 3, 1), ("a", "x", 0, "3", 1))
        # A kept place.
        self.refused("xyx", ("a", "x", 0, 3, -1), ("a", "x", 0, 3, 3), ("a", "x", 0, 3, 4), ("a", "x", 0, 3, None),
                     ("a", "x", 0, 3, True), ("a", "x", 0, 3, False), ("a", "x", 0, 3, 1.0), ("a", "x", 0, 3, "x"),
                     ("a", "x", 0, 3, "1"), ("a", "x", 0, 3, (1,)), ("a", "x", 0, 3, [1]), ("a", "x", 0, 3, {}))
        # A part too few or too many, or something in a tuple's stead.
        self.refused("xyx", ("a", "x", 0, 3), ("a", "x", 0, 3, 1, 1), ("a", "x", 0), ["a", "x", 0, 3, 1],
                     "ax031", ("a",), ("a", "x"), (("a", "x", 0, 3, 1),), {"a": "x"})

    def test_leaves_over_one_place_or_none(self):
        self.assertIs(holds(RULES, "y", ("a", "x", 0, 1, 0)), True)
        self.refused("y", ("a", "x", 0, True, 0), ("a", "x", False, 1, 0), ("a", "x", 0, 1, False), ("a", "x", 0, 1, 1),
                     ("a", "x", 0, 1, None), ("a", "x", 0, 1, -1), ("a", "x", 0, 0, None), ("a", "x", 1, 1, None))
        self.assertIs(holds(RULES, "", ("a", "x", 0, 0, None)), True)
        self.refused("", ("a", "x", 0, 0, 0), ("a", "x", 0, 0, False), ("a", "x", False, 0, None),
                     ("a", "x", 0, False, None), ("a", "x", 0, 1, 0), ("a", "x", -1, 0, None), ("a", "x", 1, 1, None),
                     ("a", "x", 0, -1, None), ("a", "x", 0, 0, -1), ("a", "x", 0, 0, ()), ("a", "x", 0, 0, ""))

    def test_forks(self):
        b, c = ("b", "x", 0, 1, 0), ("c", "z", 1, 2, 1)
        self.assertIs(holds(RULES, "xz", ("a", b, c)), True)
        # A name of which the grammar has no such rule, and the names in another order.
        self.refused("xz", ("b", b, c), ("c", b, c), ("d", b, c), ("a", ("c", "z", 0, 1, 0), ("b", "x", 1, 2, 1)),
                     ("a", b, ("b", "x", 1, 2, 1)), ("a", ("c", "z", 0, 1, 0), c), ("a", ("a", "x", 0, 1, 0), c))
        # Stretches in another order, with a gap, upon each other, or over a part of the text.
        self.refused("xz", ("a", ("b", "x", 1, 2, 1), ("c", "z", 0, 1, 0)), ("a", b, ("c", "z", 2, 2, None)),
                     ("a", b, ("c", "z", 0, 2, 1)), ("a", b, ("c", "z", 1, 1, None)), ("a", b, ("c", "z", 0, 0, None)),
                     ("a", ("b", "x", 0, 0, None), c), ("a", ("b", "x", 1, 1, None), c), ("a", b, ("c", "z", 1, 3, 1)))
        # Parts too few or too many, or something in a part's stead.
        self.refused("xz", ("a", b), ("a", b, c, ()), ("a", b, c, None), (b, c), ("a", (b, c)), ["a", b, c],
                     ("a", list(b), c), ("a", b, list(c)), ("a", b, None), ("a", None, c), ("a", "b", "c"),
                     ("a", b, ()), ("a", (), c), ("a", 0, 1), ("a", b, "z"), ("a", {}, {}), (None, b, c), (["a"], b, c))

    def test_a_part_over_a_place_and_back(self):
        # All stretches together lie over the text, but one of them ends ahead of its begin.
        self.refused("xz", ("a", ("b", "x", 0, 2, 0), ("c", ("a", "x", 2, 1, 1), ("b", "y", 1, 2, 1))),
                     ("a", ("b", "x", 0, 3, 0), ("c", ("a", "x", 3, 1, 1), ("b", "y", 1, 2, 1))))

    def test_a_rule_that_the_grammar_does_not_have(self):
        tree = ("top", ("open", "(", 0, 1, 0), ("shut", ")", 1, 2, 1))
        self.assertIs(holds(BRACKETS, "()", tree), True)
        for at in (0, 4, 5):
            rules = BRACKETS[:at] + BRACKETS[at + 1:]
            self.assertIs(holds(rules, "()", tree), False)
        # The top is the name of the first rule, wherever its other rules stand.
        self.assertIs(holds(BRACKETS[3:] + BRACKETS[:3], "()", tree), False)
        self.assertIs(holds(BRACKETS[1:] + BRACKETS[:1], "()", tree), True)

    def test_one_thing_in_each_parts_stead(self):
        leaf, fork = ("a", "x", 0, 1, 0), ("a", ("b", "x", 0, 1, 0), ("c", "z", 1, 2, 1))
        things = [-1, 0, 1, 2, 3, 4, 5, 10 ** 30, True, False, None, 0.0, 1.0, "", "a", "b", "c", "d", "x", "y", "z",
                  " ", "aa", (), ("a",), ("a", "x"), [], {}, ["a"], [0], {"a": 1}, b"a", b"x", Prickly(), leaf, fork]
        held = 0
        for tree, text, _, _, _, _ in LEAVES + FORKS:
            for path in paths(tree):
                for thing in things:
                    held += self.holds_just_where_it_is_one(RULES, text, with_part(tree, path, thing))
        self.assertGreater(held, 100)

    def test_another_shape_of_each_tuple(self):
        shapes = [
            list, str, len, lambda part: part[1:], lambda part: part[:-1], lambda part: part + (None,),
            lambda part: part + part[-1:], lambda part: (None,) + part, lambda part: (part,), lambda part: part[::-1],
            lambda part: {"tree": part}, lambda part: part + part, lambda part: part[:2], lambda part: part[:4],
            lambda part: part[:1] + part[2:1:-1] + part[1:2] + part[3:],
        ]
        for tree, text, _, _, _, _ in LEAVES + FORKS:
            for path in paths(tree):
                part = part_at(tree, path)
                if isinstance(part, tuple):
                    for shape in shapes:
                        thing = with_part(tree, path, shape(part))
                        self.holds_just_where_it_is_one(RULES, text, thing)
                        # Turned round, a fork of two alike is the same.
                        self.assertTrue(thing == tree or not holds(RULES, text, thing), thing)

    def test_trees_over_other_texts_and_of_other_grammars(self):
        grammars = small_grammars(2)
        for at, rules in enumerate(grammars):
            for text in ("", "x", "yx"):
                for begin, end in stretches(text):
                    for tree in all_trees(rules, text, rules[-1][0], begin, end, 1):
                        self.holds_just_where_it_is_one(rules, text[1:], tree)
                        self.holds_just_where_it_is_one(rules, text + "x", tree)
                        self.holds_just_where_it_is_one(rules[::-1], text, tree)
                        self.holds_just_where_it_is_one(grammars[at - 1], text, tree)


class DeepTrees(unittest.TestCase):
    """Trees far deeper than functions can call themselves."""

    RULES = [("a", "a", "a"), ("a", "x"), ("a", "y")]
    TEXT = "xyzxy"

    def leaves(self, many):
        """So many leaves that are put in ahead of, between and behind two others that lie over the text."""
        put = [("a", "xy"[at % 2], 0, 0, None) for at in range(many)]
        put += [("a", "y", 0, 2, 1)] + [("a", "x", 2, 2, None)] * many
        return put + [("a", "y", 2, 5, 3)] + [("a", "y", 5, 5, None)] * many

    def test_each_way(self):
        many = 2000
        leaves = self.leaves(many)
        text = "xy" * (many // 2) + "y" + "x" * many + "y" + "y" * many
        cost = 3 * many + 4
        for lean in (leaning_left, leaning_right, leaning_both_ways):
            tree = lean(leaves, "a")
            self.assertEqual(stretch_of(tree), (0, 5))
            self.assertEqual(mended(tree), text)
            self.assertEqual(cost_of(tree, self.TEXT), cost)
            self.assertIs(holds(self.RULES, self.TEXT, tree), True)
            deeds = deeds_of(tree, self.TEXT)
            self.assertEqual(len(deeds), 3 * many + 5)
            self.assertEqual(len([deed for deed in deeds if deed[0] != "keep"]), cost)
            self.assertEqual(deeds[many:many + 3], [("cut", 0), ("keep", 1), ("put", 2, "x")])
            self.assertEqual(done(self.TEXT, deeds), text)

    def test_over_a_part_of_the_text(self):
        for lean in (leaning_left, leaning_right, leaning_both_ways):
            tree = lean([("a", "x", 2, 2, None)] * 3000 + [("a", "x", 2, 4, 3)], "a")
            self.assertEqual(stretch_of(tree), (2, 4))
            self.assertEqual(cost_of(tree, self.TEXT), 3001)
            self.assertIs(holds(self.RULES, self.TEXT, tree), False)

    def test_deep_trees_with_one_thing_changed(self):
        leaves = self.leaves(1000)
        wrong = [("a", "z", 0, 0, None), ("b", "x", 0, 0, None), ("a", "x", 1, 1, None), ("a", "x", 0, 0, 0), (), [],
                 None, ("a",), ("a", "x", 0, 1, 0), ("a", leaves[0], leaves[1], leaves[2]), ("a", leaves[0], ()),
                 ["a", "x", 0, 0, None]]
        for lean in (leaning_left, leaning_right, leaning_both_ways):
            self.assertIs(holds(self.RULES, self.TEXT, lean(leaves, "a")), True)
            self.assertIs(holds(self.RULES, self.TEXT, lean(leaves, "b")), False)
            self.assertIs(holds(self.RULES, self.TEXT[1:], lean(leaves, "a")), False)
            for at in (0, 1, 500, 999, 1000, 1001, 1500, len(leaves) - 1):
                for leaf in wrong:
                    tree = lean(leaves[:at] + [leaf] + leaves[at + 1:], "a")
                    self.assertIs(holds(self.RULES, self.TEXT, tree), False)
                self.assertIs(holds(self.RULES, self.TEXT, lean(leaves[:at] + leaves[at + 1:], "a")),
                              leaves[at][4] is None)

    def test_deep_things_that_are_no_trees(self):
        leaf = ("a", "x", 0, 0, None)
        folds = [
            lambda deep: (deep,), lambda deep: (deep, deep), lambda deep: (deep, deep, deep), lambda deep: (deep,) * 5,
            lambda deep: ("a", deep, ()), lambda deep: ("a", (), deep), lambda deep: ("a", deep, deep),
            lambda deep: ("a", deep, leaf), lambda deep: ("a", leaf, deep), lambda deep: ("a", leaf, deep, deep),
            lambda deep: ("a", deep, 0, 0, None), lambda deep: (deep, "x", 0, 0, None), lambda deep: [deep],
            lambda deep: ("a", "x", deep, 0, None), lambda deep: ("a", "x", 0, deep, None), lambda deep: {"a": deep},
            lambda deep: ("a", "x", 0, 0, deep), lambda deep: ["a", deep, deep],
        ]
        for fold in folds:
            for deep in ((), None, "x", [], ("a", "x", 1, 1, None)):
                for _ in range(5000):
                    deep = fold(deep)
                for thing in (deep, ("a", deep, leaf), ("a", leaf, deep), ("a", "x", 0, 0, deep), (deep,) * 3):
                    self.assertIs(holds(self.RULES, "", thing), False)
                    self.assertIs(holds(self.RULES, "x", thing), False)


class NothingIsChanged(unittest.TestCase):
    def test_what_is_handed_in(self):
        for tree, text, _, _, _, _ in FORKS:
            rules, before = list(RULES), deepcopy(tree)
            stretch_of(tree)
            mended(tree)
            cost_of(tree, text)
            holds(rules, text, tree)
            self.assertEqual(tree, before)
            self.assertEqual(rules, RULES)

    def test_lists_in_a_trees_stead(self):
        thing = ["a", ["b", "x", 0, 1, 0], ["c", "z", 1, 2, 1]]
        before = deepcopy(thing)
        holds(RULES, "xz", thing)
        holds(RULES, "xz", ("a", thing[1], thing[2]))
        self.assertEqual(thing, before)

    def test_drawn_grammars(self):
        for at, rules in enumerate(drawn_grammars(10, "ab", "xy", 12)):
            before = deepcopy(rules)
            text = drawn_text("xyz", 1, at)
            for tree in all_trees(rules, text, rules[0][0], 0, 1, 2):
                self.assertIs(holds(rules, text, tree), True)
            self.assertEqual(rules, before)


if __name__ == "__main__":
    unittest.main()
