"""Points 3 and 4: grammars, and how those that are none are refused; point 1: nothing is changed."""

import unittest
from copy import deepcopy

from mendread.costs import costs, shortest
from mendread.errors import BadRule, BadText, Endless, MendError, NoName
from mendread.grammars import names_of, need_rules
from mendread.mending import mend, reads
from tests.grammars import BRACKETS, BY_HAND, doubling, drawn_grammars, name_at
from tests.refusing import Refusing
from tests.things import NO_NAMES, NO_SIGNS, NO_TEXTS, NO_TUPLES

GOOD = [("a", "b", "b"), ("b", "x"), ("c", "y")]
BAD = ("a", "xx")
UNKNOWN = ("a", "a", "d")
ENDLESS = ("e", "e", "e")


class RefusingGrammars(Refusing):
    def refused(self, refusal, rules):
        """The grammar is refused just so by all that refuse as in point 4, whatever the text is."""
        self.just(refusal, need_rules, rules)
        self.just(refusal, shortest, rules)
        for ask in (costs, mend, reads):
            self.just(refusal, ask, rules, "x")
            self.just(refusal, ask, rules, "x" * 41)
            self.just(refusal, ask, rules, None)


class BadRules(RefusingGrammars):
    def test_no_rules(self):
        self.refused(BadRule, [])

    def test_grammars_of_each_size(self):
        for many in range(1, 41):
            with self.subTest(many=many):
                rules = [(name_at(at), "x") for at in range(many)]
                self.assertEqual(need_rules(rules), rules)
                self.assertEqual(need_rules([("a", "x")] * many), [("a", "x")] * many)

    def test_too_many_rules(self):
        for many in (41, 42, 100):
            with self.subTest(many=many):
                self.refused(BadRule, [("a", "x")] * many)
                self.refused(BadRule, [(name_at(at), "x") for at in range(many)])

    def test_the_41st_rule_whatever_it_is(self):
        for rule in (("a", "x"), BAD, UNKNOWN, ENDLESS, None, []):
            with self.subTest(rule=rule):
                self.refused(BadRule, [("a", "x")] * 40 + [rule])

    def test_a_bad_rule_at_each_place(self):
        for at in range(40):
            rules = [("a", "x")] * 40
            rules[at] = BAD
            with self.subTest(at=at):
                self.refused(BadRule, rules)

    def test_another_thing_than_a_tuple(self):
        for at, thing in enumerate(NO_TUPLES):
            with self.subTest(at=at):
                self.refused(BadRule, [thing])
                self.refused(BadRule, GOOD + [thing])

    def test_a_part_too_few_or_too_many(self):
        for rule in [(), ("a",), ("a", "b", "b", "b"), ("a", "x", "x", "x"), ("a", "b", "c", "x")]:
            with self.subTest(rule=rule):
                self.refused(BadRule, GOOD + [rule])

    def test_a_wrong_part_at_each_place(self):
        for at, part in enumerate(NO_NAMES):
            with self.subTest(at=at):
                for rule in [(part, "x"), (part, "b", "b"), ("b", part, "b"), ("b", "b", part)]:
                    self.refused(BadRule, GOOD + [rule])
        for at, part in enumerate(NO_SIGNS):
            with self.subTest(sign_at=at):
                self.refused(BadRule, GOOD + [("a", part)])


class NoNames(RefusingGrammars):
    def test_a_name_one(self):
        self.refused(NoName, [("a", "x"), ("a", "d", "a")])
        self.refused(NoName, GOOD + [("c", "d", "a")])

    def test_a_name_other(self):
        self.refused(NoName, [("a", "x"), ("a", "a", "d")])
        self.refused(NoName, GOOD + [("c", "a", "d")])

    def test_both(self):
        self.refused(NoName, [("a", "b", "c")])
        self.refused(NoName, [("a", "x"), ("b", "c", "c")])

    def test_a_sign_is_no_name(self):
        self.refused(NoName, [("a", "b"), ("a", "a", "b")])

    def test_a_name_may_have_its_rule_further_on(self):
        rules = [("a", "b", "c"), ("b", "c", "c"), ("c", "x")]
        self.assertEqual(need_rules(rules), rules)


class EndlessNames(RefusingGrammars):
    def test_the_top(self):
        self.refused(Endless, [("a", "a", "a")])
        self.refused(Endless, [("a", "a", "b"), ("b", "x")])
        self.refused(Endless, [("a", "b", "a"), ("b", "x")])

    def test_a_name_that_the_top_does_not_need(self):
        self.refused(Endless, GOOD + [ENDLESS])
        self.refused(Endless, [("a", "x"), ("b", "a", "b")])

    def test_a_circle(self):
        self.refused(Endless, [("a", "b", "d"), ("b", "c", "d"), ("c", "a", "d"), ("d", "x")])
        self.refused(Endless, [("d", "x"), ("a", "d", "b"), ("b", "d", "a")])

    def test_what_leans_on_an_endless_name(self):
        self.refused(Endless, [("a", "x"), ("b", "a", "c"), ("c", "c", "a")])

    def test_a_circle_that_one_rule_leads_out_of(self):
        for rules in BY_HAND:
            with self.subTest(rules=rules):
                self.assertEqual(need_rules(rules), rules)

    def test_a_chain_as_long_as_can_be(self):
        self.assertEqual(need_rules(doubling(40)), doubling(40))
        self.assertEqual(need_rules(doubling(40)[::-1]), doubling(40)[::-1])


class TheOrder(RefusingGrammars):
    def test_a_bad_rule_is_told_ahead_of_a_missing_name(self):
        self.refused(BadRule, [UNKNOWN, ("a", "x"), BAD])
        self.refused(BadRule, [BAD, ("a", "x"), UNKNOWN])
        self.refused(BadRule, [UNKNOWN] + [("a", "x")] * 40)

    def test_a_bad_rule_is_told_ahead_of_an_endless_name(self):
        self.refused(BadRule, [ENDLESS, ("a", "x"), BAD])
        self.refused(BadRule, [BAD, ("a", "x"), ENDLESS])
        self.refused(BadRule, [ENDLESS] + [("a", "x")] * 40)

    def test_a_missing_name_is_told_ahead_of_an_endless_one(self):
        self.refused(NoName, [ENDLESS, ("a", "x"), UNKNOWN])
        self.refused(NoName, [UNKNOWN, ("a", "x"), ENDLESS])
        self.refused(NoName, [("e", "e", "d")])

    def test_all_three(self):
        self.refused(BadRule, [ENDLESS, UNKNOWN, ("a", "x"), BAD])

    def test_the_text_is_looked_at_behind_the_grammar(self):
        for text in [*NO_TEXTS, "x" * 41, chr(37), "\n", "xx\u00e9"]:
            for ask in (costs, mend, reads):
                self.just(BadText, ask, GOOD, text)
                self.just(BadRule, ask, [], text)
                self.just(BadRule, ask, [BAD], text)
                self.just(NoName, ask, [UNKNOWN], text)
                self.just(Endless, ask, [ENDLESS], text)


class Telling(unittest.TestCase):
    def test_the_names_in_the_order_of_their_first_rules(self):
        self.assertEqual(names_of([("a", "x")]), ["a"])
        rules = [("b", "a", "c"), ("c", "x"), ("b", "y"), ("a", "z"), ("c", "c", "c")]
        self.assertEqual(names_of(rules), ["b", "c", "a"])
        self.assertEqual(names_of(BRACKETS), ["top", "rest", "open", "shut"])

    def test_the_names_of_forty_rules(self):
        rules = [(name_at(at * 7 % 40), "x") for at in range(40)]
        self.assertEqual(names_of(rules), [rule[0] for rule in rules])

    def test_the_told_lists_are_the_askers_own(self):
        rules = list(GOOD)
        told = need_rules(rules)
        self.assertIsNot(told, rules)
        told.clear()
        names = names_of(rules)
        names.clear()
        self.assertEqual(rules, GOOD)
        self.assertEqual(need_rules(rules), GOOD)
        self.assertEqual(names_of(rules), ["a", "b", "c"])

    def test_what_is_handed_in_is_not_changed(self):
        for rules in [*BY_HAND, *drawn_grammars(20, "abc", "xy", 1)]:
            before = deepcopy(rules)
            need_rules(rules)
            names_of(rules)
            self.assertEqual(rules, before)

    def test_what_is_refused_is_not_changed(self):
        for rules in [[], [BAD], [UNKNOWN, ("a", "x")], [ENDLESS], [("a", "x")] * 41, [["a", "x"], {"a": "x"}]]:
            before = deepcopy(rules)
            with self.assertRaises(MendError):
                need_rules(rules)
            self.assertEqual(rules, before)


if __name__ == "__main__":
    unittest.main()
