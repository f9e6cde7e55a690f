"""Good grammars that the tests go over, told by hand or drawn by a fixed count."""

from itertools import combinations
from random import Random

BRACKETS = [
    ("top", "open", "shut"), ("top", "open", "rest"), ("top", "top", "top"), ("rest", "top", "shut"),
    ("open", "("), ("shut", ")"),
]

BY_HAND = [
    [("a", "x")],
    [("a", " ")],
    [("a", "~"), ("a", "~")],
    BRACKETS,
    [("a", "a", "a"), ("a", "x")],
    [("a", "x"), ("a", "a", "a"), ("a", "a", "a"), ("a", "x")],
    [("a", "b", "b"), ("b", "c", "c"), ("c", "x")],
    [("c", "x"), ("b", "c", "c"), ("a", "b", "b")],
    # In a circle: each name leans on the next one, and only the last one leads out.
    [("a", "b", "d"), ("b", "c", "d"), ("c", "a", "d"), ("c", "x"), ("d", "y")],
    [("a", "d", "b"), ("b", "d", "c"), ("c", "d", "a"), ("d", "y"), ("a", "x")],
    [("a", "b", "c"), ("b", "a", "c"), ("c", "b", "a"), ("c", "x"), ("b", "y")],
    # The last rule of a name is its cheapest, also over stretches without a sign.
    [("a", "b", "b"), ("b", "b", "b"), ("b", "x"), ("a", "y")],
    [("top", "top", "top"), ("z", "z", "z"), ("z", "x"), ("top", "z", "z")],
]

PAIRS_OF_NAMES = [(one, other) for one in "ab" for other in "ab"]

RULES_OF_TWO_NAMES = [
    *[(name, sign) for name in "ab" for sign in "xy"],
    *[(name, one, other) for name in "ab" for one, other in PAIRS_OF_NAMES],
]


def is_whole(rules):
    """True where each name has a rule and stands for some text."""
    good = set()
    for _ in rules:
        for rule in rules:
            if len(rule) == 2 or (rule[1] in good and rule[2] in good):
                good.add(rule[0])
    return all(rule[0] in good and (len(rule) == 2 or good.issuperset(rule[1:])) for rule in rules)


def small_grammars(most):
    """All grammars of at most so many rules, over two names and two signs."""
    found = []
    for many in range(1, most + 1):
        found.extend(list(rules) for rules in combinations(RULES_OF_TWO_NAMES, many))
    return [rules for rules in found if is_whole(rules)]


def drawn_grammars(many, names, signs, seed):
    """So many grammars with rules in any order, some of them told twice; always the same for a seed."""
    chance = Random(seed)
    found = []
    while len(found) < many:
        rules = [(chance.choice(names), chance.choice(signs)) for _ in range(chance.randint(1, 3))]
        for _ in range(chance.randint(1, 7)):
            rules.append((chance.choice(names), chance.choice(names), chance.choice(names)))
        rules.extend(chance.sample(rules, chance.randint(0, 2)))
        chance.shuffle(rules)
        if is_whole(rules):
            found.append(rules)
    return found


def drawn_text(signs, many, seed):
    """A text of so many of the signs; always the same for a seed."""
    chance = Random(seed)
    return "".join(chance.choice(signs) for _ in range(many))


def name_at(at):
    """A name of its own for each number from 0 to 675."""
    letters = "abcdefghijklmnopqrstuvwxyz"
    return letters[at // 26] + letters[at % 26]


def doubling(many):
    """A grammar of so many rules, whose top stands for one text of 2 ** (many - 1) signs."""
    forks = [(name_at(at), name_at(at + 1), name_at(at + 1)) for at in range(many - 1)]
    return forks + [(name_at(many - 1), "x")]


def of_length(many):
    """A grammar whose top stands for one text of just so many signs (2 to 2 ** 12)."""
    bits = [at for at in range(many.bit_length()) if many >> at & 1]
    highest = bits.pop()
    doubles = [(name_at(at), name_at(at - 1), name_at(at - 1)) for at in range(highest, 0, -1)]
    sums = []
    so_far = name_at(highest)
    for at in bits:
        sums.append(("with" + name_at(at), name_at(at), so_far))
        so_far = "with" + name_at(at)
    return sums[::-1] + doubles + [(name_at(0), "x")]
