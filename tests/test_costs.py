"""Points 9 and 10: the table of costs and the shortest texts, held against slow counts."""

import unittest
from copy import deepcopy
from itertools import product

from mendread.costs import costs, shortest
from mendread.grammars import names_of
from tests.grammars import BRACKETS, BY_HAND, doubling, drawn_grammars, drawn_text, name_at, small_grammars
from tests.slow import distance, rule_cost, slow_costs, stretches, texts_of


def short_texts(signs, most):
    return ["".join(text) for many in range(most + 1) for text in product(signs, repeat=many)]


class Tables(unittest.TestCase):
    def holds(self, rules, text):
        """The table has just the names and stretches, and is what point 10 says of it."""
        table = costs(rules, text)
        names = names_of(rules)
        keys = {(name, begin, end) for name in names for begin, end in stretches(text)}
        self.assertIs(type(table), dict)
        self.assertEqual(set(table), keys)
        self.assertEqual({type(cost) for cost in table.values()}, {int})
        for begin, end in stretches(text):
            least = {}
            for rule in rules:
                least.setdefault(rule[0], []).append(rule_cost(rule, text, table, begin, end))
            for name in names:
                self.assertEqual(table[name, begin, end], min(least[name]), (rules, text, name, begin, end))
        return table

    def test_a_table_by_hand(self):
        self.assertEqual(costs([("a", "x")], ""), {("a", 0, 0): 1})
        self.assertEqual(costs([("a", "x")], "yx"), {
            ("a", 0, 0): 1, ("a", 0, 1): 1, ("a", 0, 2): 1, ("a", 1, 1): 1, ("a", 1, 2): 0, ("a", 2, 2): 1,
        })

    def test_brackets(self):
        for text, cost in [("", 2), ("()", 0), ("(())()", 0), ("(()", 1), (")(", 2), ("((((", 2), ("xx", 2), ("(x)", 1),
                           (")()(", 2), ("(()x))", 1), ("(()xx))", 2), ("()" * 20, 0), ("(" * 20 + ")" * 20, 0)]:
            with self.subTest(text=text):
                table = self.holds(BRACKETS, text)
                self.assertEqual(table["top", 0, len(text)], cost)

    def test_grammars_by_hand(self):
        for rules in BY_HAND:
            for text in ["", "x", "y", "~", "xy", "yx", "xxx", "xyxyx", "(x)", "yyyyyyyy"]:
                with self.subTest(rules=rules, text=text):
                    table = self.holds(rules, text)
                    self.assertEqual(table, slow_costs(rules, text))

    def test_all_small_grammars(self):
        for rules in small_grammars(4):
            for text in ["", "x", "xy", "yyx", "zxz"]:
                self.assertEqual(self.holds(rules, text), slow_costs(rules, text), (rules, text))

    def test_drawn_grammars(self):
        for at, rules in enumerate(drawn_grammars(60, "abcd", "xyz", 2)):
            for many in range(7):
                text = drawn_text("xyzw", many, at)
                self.assertEqual(self.holds(rules, text), slow_costs(rules, text), (rules, text))

    def test_no_text_of_the_name_is_nearer(self):
        # A text with more signs than the stretch and the shortest text is further off than the latter.
        for rules in [*BY_HAND, *small_grammars(3), *drawn_grammars(30, "abc", "xy", 3)]:
            lengths = shortest(rules)
            texts = texts_of(rules, 3 + max(3, *lengths.values()))
            for text in ["", "x", "xy", "yx", "yyx", "zx"]:
                for (name, begin, end), cost in costs(rules, text).items():
                    nearest = min(distance(text[begin:end], one) for one in texts[name])
                    self.assertEqual(cost, nearest, (rules, text, name, begin, end))

    def test_all_short_texts(self):
        rules = [("a", "b", "c"), ("c", "a", "b"), ("b", "c", "a"), ("b", "x"), ("a", "y"), ("a", "b", "c")]
        for text in short_texts("xyz", 5):
            self.holds(rules, text)

    def test_rules_told_twice_or_in_another_order_come_to_the_same(self):
        for at, rules in enumerate(drawn_grammars(20, "abc", "xy", 4)):
            text = drawn_text("xyz", 6, at)
            table = costs(rules, text)
            self.assertEqual(costs(rules[::-1], text), table)
            self.assertEqual(costs(rules + rules, text), table)

    def test_each_sign_is_its_own(self):
        signs = "".join(chr(number) for number in range(32, 127) if number != 37)
        for sign in signs:
            self.assertEqual(costs([("a", sign)], sign), {("a", 0, 0): 1, ("a", 0, 1): 0, ("a", 1, 1): 1})
        for one, other in zip(signs, signs[1:] + signs[:1]):
            self.assertEqual(costs([("a", one)], other)["a", 0, 1], 1)

    def test_the_largest_grammar_over_the_longest_text(self):
        names = [name_at(at) for at in range(12)]
        rules = [(names[at], "xyz"[at]) for at in range(3)]
        rules += [(names[at], names[at // 2], names[at // 3]) for at in range(3, 12)]
        rules += [(names[at % 12], names[at * 5 % 12], names[at * 7 % 11]) for at in range(12, 40)]
        self.assertEqual(len(rules), 40)
        self.holds(rules, drawn_text("xyzw", 40, 5))

    def test_a_circle_of_forty_rules(self):
        # Told against the grain: each name leans on the one behind it, also over the same stretch.
        rules = [(name_at(at), name_at(at + 1), name_at(38)) for at in range(37)]
        rules += [(name_at(37), name_at(0), name_at(38)), (name_at(38), "x"), (name_at(37), "y")]
        self.assertEqual(len(rules), 40)
        self.holds(rules, "xyz" * 4)
        self.holds(rules[::-1], "xyz" * 4)

    def test_large_costs(self):
        for rules in (doubling(40), doubling(40)[::-1]):
            table = self.holds(rules, "xxyx")
            top = name_at(0)
            self.assertEqual(table[top, 0, 0], 2 ** 39)
            self.assertEqual(table[top, 0, 4], 2 ** 39 - 3)
            self.assertEqual(table[top, 2, 3], 2 ** 39)
            self.assertEqual(table[name_at(38), 0, 4], 2)

    def test_the_asker_may_change_what_is_told(self):
        before = deepcopy(BRACKETS)
        table = costs(BRACKETS, "(()")
        copy = dict(table)
        for key in list(table):
            table[key] = -1
        table.clear()
        self.assertEqual(costs(BRACKETS, "(()"), copy)
        self.assertEqual(BRACKETS, before)

    def test_what_is_handed_in_is_not_changed(self):
        for rules in [*BY_HAND, *drawn_grammars(10, "abc", "xy", 6)]:
            before = deepcopy(rules)
            costs(rules, "xyx")
            shortest(rules)
            self.assertEqual(rules, before)


class Shortest(unittest.TestCase):
    def test_by_hand(self):
        self.assertEqual(shortest([("a", "x")]), {"a": 1})
        self.assertEqual(shortest(BRACKETS), {"top": 2, "rest": 3, "open": 1, "shut": 1})
        self.assertEqual(shortest([("a", "b", "b"), ("b", "c", "a"), ("b", "c", "c"), ("c", "x")]),
                         {"a": 4, "b": 2, "c": 1})

    def test_the_names_stand_in_the_order_of_names_of(self):
        for rules in [*BY_HAND, *small_grammars(3), *drawn_grammars(50, "abcd", "xy", 7)]:
            self.assertEqual(list(shortest(rules)), names_of(rules))
            self.assertEqual(list(shortest(rules[::-1])), names_of(rules[::-1]))

    def test_no_text_of_the_name_is_shorter(self):
        for rules in [*BY_HAND, *small_grammars(3), *drawn_grammars(50, "abcd", "xy", 8)]:
            lengths = shortest(rules)
            self.assertEqual({type(length) for length in lengths.values()}, {int})
            texts = texts_of(rules, max(lengths.values()))
            self.assertEqual(lengths, {name: min(map(len, texts[name])) for name in texts}, rules)

    def test_the_cost_over_each_empty_stretch(self):
        for rules in [*BY_HAND, *drawn_grammars(20, "abcd", "xy", 9)]:
            table = costs(rules, "xyz")
            for name, length in shortest(rules).items():
                self.assertEqual([table[name, place, place] for place in range(4)], [length] * 4)

    def test_large_numbers(self):
        lengths = {name_at(at): 2 ** (39 - at) for at in range(40)}
        self.assertEqual(shortest(doubling(40)), lengths)
        self.assertEqual(shortest(doubling(40)[::-1]), lengths)
        self.assertEqual(list(shortest(doubling(40)[::-1])), [name_at(at) for at in range(39, -1, -1)])

    def test_the_asker_may_change_what_is_told(self):
        told = shortest(BRACKETS)
        told.clear()
        self.assertEqual(shortest(BRACKETS), {"top": 2, "rest": 3, "open": 1, "shut": 1})


if __name__ == "__main__":
    unittest.main()
