"""Mending a text: the told tree and its cost (points 11 and 12)."""

from mendread.costs import costs, leaf_cost
from mendread.grammars import is_fork_rule, top_of
from mendread.trees import is_fork


def mend(rules, text):
    """The pair of the told tree of the top over the whole text, and its cost."""
    table = costs(rules, text)
    top = (top_of(rules), 0, len(text))
    return (told_tree(rules, text, table, top), table[top])


def reads(rules, text):
    """True where the grammar reads the text, else False."""
    # By the table alone: where the cost is great, there is no telling the tree.
    table = costs(rules, text)
    return table[(top_of(rules), 0, len(text))] == 0


def told_tree(rules, text, table, top):
    """The told tree of the top, a tuple (name, begin, end)."""
    steps = told_steps(rules, text, table, top)
    trees = {}
    # A fork's parts are shorter than it is, or as long and cheaper (no name costs nought over an empty
    # stretch), so in this order they are there when the fork is built.
    for key in sorted(steps, key=lambda part: (part[2] - part[1], table[part])):
        step = steps[key]
        if is_fork(step):
            name, one, other = step
            trees[key] = (name, trees[one], trees[other])
        else:
            trees[key] = step
    return trees[top]


def told_steps(rules, text, table, top):
    """From each (name, begin, end) of which the top's told tree has the told tree, to its told step."""
    steps = {}
    waiting = [top]
    while waiting:
        key = waiting.pop()
        if key not in steps:
            step = told_step(rules, text, table, key)
            steps[key] = step
            if is_fork(step):
                waiting.extend([step[1], step[2]])
    return steps


def told_step(rules, text, table, key):
    """The told tree's uppermost part: a leaf, or a fork with a tuple (name, begin, end) in each part's stead."""
    name, begin, end = key
    for rule in rules:
        if rule[0] == name:
            step = step_by(rule, text, table, begin, end)
            if step is not None:
                return step
    # Not come to: some rule comes to the cost (point 10).
    return None


def step_by(rule, text, table, begin, end):
    """The told step by one rule; None where the rule does not come to the cost of its name."""
    cost = table[(rule[0], begin, end)]
    if is_fork_rule(rule):
        return fork_by(rule, table, begin, end, cost)
    name, sign = rule
    if leaf_cost(sign, text, begin, end) != cost:
        return None
    return (name, sign, begin, end, kept_place(sign, text, begin, end))


def fork_by(rule, table, begin, end, cost):
    """The fork by the rule, split at the first place at which both costs come to the cost; None without one."""
    name, one, other = rule
    for place in range(begin, end + 1):
        first = (one, begin, place)
        second = (other, place, end)
        if table[first] + table[second] == cost:
            return (name, first, second)
    return None


def kept_place(sign, text, begin, end):
    """The first place of the stretch that has the sign, else its first place; None where it has no place."""
    if begin == end:
        return None
    found = text[begin:end].find(sign)
    return begin + max(found, 0)
