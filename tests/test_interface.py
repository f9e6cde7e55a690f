"""The interface: each function and class stands in the file under which DOC.md lists it."""

import unittest

from mendread import costs, deeds, errors, grammars, mending, trees

LISTED = [
    (errors, ["MendError", "BadRule", "NoName", "Endless", "BadText", "BadDeeds"]),
    (grammars, ["is_sign", "is_name", "is_rule", "need_rules", "need_text", "names_of"]),
    (costs, ["costs", "shortest"]),
    (mending, ["mend", "reads"]),
    (trees, ["stretch_of", "mended", "cost_of", "holds"]),
    (deeds, ["deeds_of", "done"]),
]


class Interface(unittest.TestCase):
    def test_each_is_defined_in_its_file(self):
        for module, names in LISTED:
            for name in names:
                with self.subTest(name=name):
                    self.assertEqual(getattr(module, name).__module__, module.__name__)

    def test_arguments_have_the_listed_names(self):
        rules, text = [("a", "x")], "y"
        self.assertIs(grammars.is_sign(thing="x"), True)
        self.assertIs(grammars.is_name(thing="a"), True)
        self.assertIs(grammars.is_rule(thing=("a", "x")), True)
        self.assertEqual(grammars.need_rules(rules=rules), rules)
        self.assertEqual(grammars.need_text(text=text), text)
        self.assertEqual(grammars.names_of(rules=rules), ["a"])
        self.assertEqual(costs.costs(rules=rules, text=text)["a", 0, 1], 1)
        self.assertEqual(costs.shortest(rules=rules), {"a": 1})
        tree = ("a", "x", 0, 1, 0)
        self.assertEqual(mending.mend(rules=rules, text=text), (tree, 1))
        self.assertIs(mending.reads(rules=rules, text=text), False)
        self.assertEqual(trees.stretch_of(tree=tree), (0, 1))
        self.assertEqual(trees.mended(tree=tree), "x")
        self.assertEqual(trees.cost_of(tree=tree, text=text), 1)
        self.assertIs(trees.holds(rules=rules, text=text, tree=tree), True)
        self.assertEqual(deeds.deeds_of(tree=tree, text=text), [("change", 0, "x")])
        self.assertEqual(deeds.done(text=text, deeds=[("change", 0, "x")]), "x")


if __name__ == "__main__":
    unittest.main()
