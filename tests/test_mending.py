"""Points 9 to 12: the told tree and its cost, and what the grammar reads, held against slow counts."""

import unittest
from copy import deepcopy
from itertools import product

from mendread.costs import costs, shortest
from mendread.deeds import deeds_of, done
from mendread.mending import mend, reads
from mendread.trees import cost_of, holds, mended, stretch_of
from tests.grammars import (
    BRACKETS, BY_HAND, doubling, drawn_grammars, drawn_text, name_at, of_length, small_grammars,
)
from tests.slow import all_trees, count_of, distance, slow_costs, texts_of, told_tree, what_it_is

TEXTS = ["", "x", "y", "~", "xy", "yx", "xxx", "xyxyx", "(x)", "yyyyyyyy"]


def texts_near(text, signs):
    """All texts that come of this one by one sign put in, left out or changed."""
    found = [text[:at] + text[at + 1:] for at in range(len(text))]
    for sign in signs:
        found += [text[:at] + sign + text[at:] for at in range(len(text) + 1)]
        found += [text[:at] + sign + text[at + 1:] for at in range(len(text))]
    return found


class ToldTrees(unittest.TestCase):
    def told(self, rules, text, tree, cost):
        self.assertEqual(mend(rules, text), (tree, cost))

    def test_the_first_rule_that_comes_to_the_cost(self):
        self.told([("a", "x"), ("a", "y")], "z", ("a", "x", 0, 1, 0), 1)
        self.told([("a", "y"), ("a", "x")], "z", ("a", "y", 0, 1, 0), 1)
        self.told([("a", "x"), ("a", "y")], "y", ("a", "y", 0, 1, 0), 0)
        self.told([("a", "x"), ("a", "y")], "yx", ("a", "x", 0, 2, 1), 1)
        self.told([("a", "x"), ("a", "y")], "", ("a", "x", 0, 0, None), 1)
        # Of another name's rules, none is taken.
        self.told([("a", "x"), ("b", "y"), ("a", "z")], "y", ("a", "x", 0, 1, 0), 1)

    def test_a_leaf_and_a_fork_of_the_same_cost(self):
        fork, leaf = ("a", "b", "b"), ("a", "x")
        forked = ("a", ("b", "y", 0, 1, 0), ("b", "y", 1, 2, 1))
        self.told([fork, leaf, ("b", "y")], "yx", forked, 1)
        self.told([leaf, fork, ("b", "y")], "yx", ("a", "x", 0, 2, 1), 1)
        self.told([leaf, fork, ("b", "y")], "yy", forked, 0)
        self.told([fork, leaf, ("b", "y")], "x", ("a", "x", 0, 1, 0), 0)
        self.told([fork, leaf, ("b", "y")], "", ("a", "x", 0, 0, None), 1)

    def test_the_kept_place(self):
        rules = [("a", "x")]
        self.told(rules, "yxx", ("a", "x", 0, 3, 1), 2)
        self.told(rules, "xxx", ("a", "x", 0, 3, 0), 2)
        self.told(rules, "yyx", ("a", "x", 0, 3, 2), 2)
        self.told(rules, "yyy", ("a", "x", 0, 3, 0), 3)
        self.told(rules, "", ("a", "x", 0, 0, None), 1)
        # Places are those of the text, not of the stretch.
        rules = [("a", "b", "c"), ("b", "("), ("c", "x")]
        self.told(rules, "(xx", ("a", ("b", "(", 0, 1, 0), ("c", "x", 1, 3, 1)), 1)
        self.told(rules, "(yx", ("a", ("b", "(", 0, 1, 0), ("c", "x", 1, 3, 2)), 1)
        self.told(rules, "x(y", ("a", ("b", "(", 0, 2, 1), ("c", "x", 2, 3, 2)), 2)

    def test_the_place_of_the_split(self):
        rules = [("a", "b", "b"), ("b", "x")]
        self.told(rules, "", ("a", ("b", "x", 0, 0, None), ("b", "x", 0, 0, None)), 2)
        self.told(rules, "x", ("a", ("b", "x", 0, 0, None), ("b", "x", 0, 1, 0)), 1)
        self.told(rules, "y", ("a", ("b", "x", 0, 0, None), ("b", "x", 0, 1, 0)), 2)
        self.told(rules, "xx", ("a", ("b", "x", 0, 1, 0), ("b", "x", 1, 2, 1)), 0)
        self.told(rules, "yy", ("a", ("b", "x", 0, 1, 0), ("b", "x", 1, 2, 1)), 2)
        self.told(rules, "xxx", ("a", ("b", "x", 0, 1, 0), ("b", "x", 1, 3, 1)), 1)
        self.told([("a", "b", "c"), ("b", "x"), ("c", "y")], "x", ("a", ("b", "x", 0, 1, 0), ("c", "y", 1, 1, None)), 1)
        self.told([("a", "b", "c"), ("b", "x"), ("c", "y")], "y", ("a", ("b", "x", 0, 0, None), ("c", "y", 0, 1, 0)), 1)

    def test_the_first_of_several_splits(self):
        first, behind = ("a", "x", 0, 1, 0), ("a", ("a", "x", 1, 2, 1), ("a", "x", 2, 3, 2))
        for rules in ([("a", "a", "a"), ("a", "x")], [("a", "x"), ("a", "a", "a")]):
            self.told(rules, "xxx", ("a", first, behind), 0)
        # A sign may be put in at either end; the split at the begin is the first one.
        rules = [("a", "b", "a"), ("a", "b", "b"), ("b", "x")]
        self.told(rules, "x", ("a", ("b", "x", 0, 0, None), ("b", "x", 0, 1, 0)), 1)
        behind = ("a", ("b", "x", 1, 2, 1), ("b", "x", 2, 3, 2))
        self.told(rules, "xxx", ("a", ("b", "x", 0, 1, 0), behind), 0)

    def test_brackets(self):
        self.told(BRACKETS, "", ("top", ("open", "(", 0, 0, None), ("shut", ")", 0, 0, None)), 2)
        self.told(BRACKETS, "(()", ("top", ("open", "(", 0, 1, 0), ("shut", ")", 1, 3, 2)), 1)
        self.told(BRACKETS, "()()", ("top", ("top", ("open", "(", 0, 1, 0), ("shut", ")", 1, 2, 1)),
                                     ("top", ("open", "(", 2, 3, 2), ("shut", ")", 3, 4, 3))), 0)
        self.told(BRACKETS, "((((", ("top", ("open", "(", 0, 1, 0), (
            "rest", ("top", ("open", "(", 1, 2, 1), ("shut", ")", 2, 3, 2)), ("shut", ")", 3, 4, 3))), 2)

    def test_the_kinds_of_what_is_told(self):
        for text in TEXTS:
            told = mend(BRACKETS, text)
            self.assertEqual([type(told), *map(type, told)], [tuple, tuple, int])


class AgainstSlowCounts(unittest.TestCase):
    def mends(self, rules, text, table):
        """The told pair is what points 9 to 12 say of it, by the table."""
        top = rules[0][0]
        tree, cost = mend(rules, text)
        case = (rules, text, tree, cost)
        self.assertEqual(cost, table[top, 0, len(text)], case)
        self.assertEqual(tree, told_tree(rules, text, table, top, 0, len(text)), case)
        self.assertEqual(what_it_is(rules, text, tree), (top, 0, len(text)), case)
        self.assertIs(holds(rules, text, tree), True, case)
        self.assertEqual(stretch_of(tree), (0, len(text)), case)
        self.assertEqual(cost_of(tree, text), cost, case)
        self.assertEqual(count_of(tree, text), cost, case)
        behind = mended(tree)
        self.assertEqual(done(text, deeds_of(tree, text)), behind, case)
        self.assertIs(reads(rules, text), cost == 0, case)
        self.assertEqual(behind == text, cost == 0, case)
        self.assertEqual(distance(text, behind), cost, case)
        return behind

    def mends_twice(self, rules, text, table):
        """As mends; and the mended text is one that the grammar reads, where it has not too many signs."""
        behind = self.mends(rules, text, table)
        if len(behind) <= 40:
            tree, cost = mend(rules, behind)
            self.assertEqual((mended(tree), cost), (behind, 0), (rules, text))
            self.assertIs(reads(rules, behind), True)

    def test_grammars_by_hand(self):
        for rules in BY_HAND:
            for text in TEXTS:
                self.mends_twice(rules, text, slow_costs(rules, text))

    def test_all_small_grammars(self):
        for rules in small_grammars(4):
            for text in ["", "x", "xy", "yyx", "zxz"]:
                self.mends(rules, text, slow_costs(rules, text))

    def test_drawn_grammars(self):
        for at, rules in enumerate(drawn_grammars(60, "abcd", "xyz", 31)):
            for many in range(7):
                text = drawn_text("xyzw", many, at)
                self.mends_twice(rules, text, slow_costs(rules, text))

    def test_all_short_texts(self):
        rules = [("a", "b", "c"), ("c", "a", "b"), ("b", "c", "a"), ("b", "x"), ("a", "y"), ("a", "b", "c")]
        for many in range(5):
            for signs in product("xyz", repeat=many):
                text = "".join(signs)
                self.mends_twice(rules, text, costs(rules, text))

    def test_long_texts(self):
        # Costs are held against slow counts elsewhere; here the told trees are, by them.
        for at, rules in enumerate([*BY_HAND, *drawn_grammars(10, "abcde", "xyz", 32)]):
            for many in (15, 40):
                text = drawn_text("xyz()", many, at)
                self.mends_twice(rules, text, costs(rules, text))

    def test_the_largest_grammar(self):
        names = [name_at(at) for at in range(12)]
        rules = [(names[at % 12], names[at * 5 % 12], names[at * 7 % 11]) for at in range(12, 40)]
        rules += [(names[at], "xyz"[at % 3]) for at in range(12)]
        self.assertEqual(len(rules), 40)
        text = drawn_text("xyzw", 40, 33)
        self.mends_twice(rules, text, costs(rules, text))

    def test_no_tree_is_cheaper(self):
        for rules in small_grammars(2):
            for text in ("", "x", "yx"):
                _, cost = mend(rules, text)
                trees = all_trees(rules, text, rules[0][0], 0, len(text), 2)
                self.assertEqual(cost, min(count_of(tree, text) for tree in trees), (rules, text))

    def test_the_texts_that_are_read(self):
        for rules in [*BY_HAND, *small_grammars(3), *drawn_grammars(30, "abc", "xy", 34)]:
            texts = texts_of(rules, 4)[rules[0][0]]
            for many in range(5):
                for signs in product("xy", repeat=many):
                    text = "".join(signs)
                    self.assertIs(reads(rules, text), text in texts, (rules, text))

    def test_one_sign_changes_the_cost_by_one_at_most(self):
        for at, rules in enumerate([*BY_HAND, *drawn_grammars(20, "abc", "xy", 35)]):
            for many in (0, 1, 4, 7):
                text = drawn_text("xyz", many, at)
                _, cost = mend(rules, text)
                for near in texts_near(text, "xyz"):
                    self.assertLessEqual(abs(mend(rules, near)[1] - cost), 1, (rules, text, near))

    def test_rules_told_twice(self):
        for at, rules in enumerate(drawn_grammars(20, "abc", "xy", 36)):
            text = drawn_text("xyz", 6, at)
            self.assertEqual(mend(rules + rules, text), mend(rules, text))

    def test_names_told_in_any_order(self):
        # Only the top's rules stay ahead; the rules of each name keep their order.
        for at, rules in enumerate(drawn_grammars(20, "abcd", "xy", 37)):
            text = drawn_text("xyz", 6, at)
            top = [rule for rule in rules if rule[0] == rules[0][0]]
            others = [rule for rule in rules if rule[0] != rules[0][0]]
            for order in (sorted(others, key=lambda rule: rule[0]), sorted(others, key=lambda rule: -ord(rule[0]))):
                self.assertEqual(mend(top + order, text), mend(rules, text))


class GreatCosts(unittest.TestCase):
    def test_reads_answers_at_any_cost(self):
        for rules in (doubling(40), doubling(23)):
            for text in ("", "x", "y", "xxyx", "x" * 40, "y" * 40):
                self.assertIs(reads(rules, text), False)
        # The top is read, though another name stands for no text that is not very long.
        self.assertIs(reads([("z", "x"), ("z", "z", "z")] + doubling(38), "x" * 40), True)
        rules = [("z", name_at(0), name_at(0)), ("z", "z", "z"), ("z", "y")] + doubling(37)
        self.assertIs(reads(rules, "y" * 40), True)
        self.assertIs(reads(rules, "x"), False)

    def test_reads_just_the_longest_texts(self):
        for many in (2, 31, 40):
            for other in (*range(4), *range(29, 33), *range(37, 41)):
                self.assertIs(reads(of_length(many), "x" * other), other == many, (many, other))

    def test_costs_of_about_a_thousand(self):
        for many, text, cost in [
            (1000, "", 1000), (999, "", 999), (1000, "y" * 40, 1000), (1040, "x" * 40, 1000), (1020, "yx" * 20, 1000),
            (1001, "x", 1000), (1023, "xyz" * 7 + "xx", 1014), (1100, "", 1100), (1024, "", 1024),
        ]:
            rules = of_length(many)
            self.assertEqual(shortest(rules)[rules[0][0]], many)
            with self.subTest(many=many, text=text):
                tree, told = mend(rules, text)
                self.assertEqual(told, cost)
                self.assertEqual(mended(tree), "x" * many)
                self.assertEqual(cost_of(tree, text), cost)
                self.assertIs(holds(rules, text, tree), True)
                self.assertEqual(done(text, deeds_of(tree, text)), "x" * many)
                table = costs(rules, text)
                self.assertEqual(tree, told_tree(rules, text, table, rules[0][0], 0, len(text)))

    def test_a_long_way_round_a_circle(self):
        # Each name leans on the next one, 38 times; only the last one leads out.
        rules = [(name_at(at), name_at(at + 1), name_at(38)) for at in range(37)]
        rules += [(name_at(37), name_at(0), name_at(38)), (name_at(38), "x"), (name_at(37), "y")]
        for text in ("", "y", "x", "yx", "x" * 40, "y" + "x" * 38, "xxy" * 13):
            tree, cost = mend(rules, text)
            self.assertEqual(tree, told_tree(rules, text, costs(rules, text), rules[0][0], 0, len(text)))
            self.assertEqual(cost_of(tree, text), cost)
            self.assertIs(holds(rules, text, tree), True)
        self.assertIs(reads(rules, "y" + "x" * 37), True)
        self.assertIs(reads(rules, "y" + "x" * 38), False)


class NothingIsChanged(unittest.TestCase):
    def test_what_is_handed_in(self):
        for at, rules in enumerate([*BY_HAND, *drawn_grammars(20, "abc", "xy", 38)]):
            before = deepcopy(rules)
            for text in ("", drawn_text("xyz", 5, at)):
                tree, _ = mend(rules, text)
                kept = deepcopy(tree)
                reads(rules, text)
                holds(rules, text, tree)
                deeds_of(tree, text)
                self.assertEqual(tree, kept)
            self.assertEqual(rules, before)

    def test_the_asker_may_change_what_is_told(self):
        told = mend(BRACKETS, "(()")
        for ask in (lambda: costs(BRACKETS, "(()"), lambda: shortest(BRACKETS)):
            table = ask()
            for key in list(table):
                table[key] = 0
            table.clear()
            self.assertEqual(mend(BRACKETS, "(()"), told)
            self.assertIs(reads(BRACKETS, "(()"), False)

    def test_the_asker_may_change_the_rules_behind_a_call(self):
        rules = [("a", "x")]
        self.assertEqual(mend(rules, "y"), (("a", "x", 0, 1, 0), 1))
        rules[0] = ("a", "y")
        self.assertEqual(mend(rules, "y"), (("a", "y", 0, 1, 0), 0))
        self.assertIs(reads(rules, "y"), True)


if __name__ == "__main__":
    unittest.main()
