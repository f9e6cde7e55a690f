"""The costs of the cheapest trees (points 9 and 10), and the lengths of the shortest texts."""

from mendread.grammars import is_fork_rule, keep_lesser, lengths_of, names_of, need_rules, need_text


def shortest(rules):
    """From each name, in the order of names_of, to the length of the shortest text it stands for."""
    need_rules(rules)
    lengths = lengths_of(rules)
    return {name: lengths[name] for name in names_of(rules)}


def costs(rules, text):
    """The table: from each (name, begin, end) to the cost of the name's cheapest tree over the stretch."""
    need_rules(rules)
    need_text(text)
    lengths = lengths_of(rules)
    table = {}
    # Over an empty stretch every sign is put in, so the cheapest tree is that of the shortest text.
    for place in range(len(text) + 1):
        enter(table, lengths, place, place)
    # By growing length: a fork split inside a stretch is told by shorter stretches.
    for length in range(1, len(text) + 1):
        for begin in range(len(text) - length + 1):
            end = begin + length
            least = inside_costs(rules, text, table, begin, end)
            settle(rules, lengths, least)
            enter(table, least, begin, end)
    return table


def enter(table, least, begin, end):
    """Write the costs over one stretch into the table."""
    for name, cost in least.items():
        table[(name, begin, end)] = cost


def inside_costs(rules, text, table, begin, end):
    """From names to their least costs over a stretch with signs, by leaves and by forks split inside it.

    A name for which neither is to be had is missing.
    """
    least = {}
    for rule in rules:
        cost = inside_cost(rule, text, table, begin, end)
        if cost is not None:
            keep_lesser(least, rule[0], cost)
    return least


def inside_cost(rule, text, table, begin, end):
    """The cost that one rule comes to, as in inside_costs; None where the stretch has no inside to split at."""
    if not is_fork_rule(rule):
        return leaf_cost(rule[1], text, begin, end)
    _, one, other = rule
    return min(
        [table[(one, begin, place)] + table[(other, place, end)] for place in range(begin + 1, end)],
        default=None,
    )


def leaf_cost(sign, text, begin, end):
    """The cost of the cheapest leaf with this sign over a stretch."""
    if begin == end:
        return 1
    # One sign of the stretch is kept or changed, all others are left out.
    if sign in text[begin:end]:
        return end - begin - 1
    return end - begin


def settle(rules, lengths, least):
    """Lower the costs over one stretch by the forks that are split at its begin or at its end.

    One tree of such a fork lies over the whole stretch again, and names may lean on each other in a
    circle, so the rules are gone through until nothing is lowered.
    """
    lowered = True
    while lowered:
        lowered = False
        for rule in rules:
            cost = edge_cost(rule, lengths, least)
            if cost is not None and keep_lesser(least, rule[0], cost):
                lowered = True


def edge_cost(rule, lengths, least):
    """The cost of the rule's fork split at begin or end, by the costs known so far; None where there is none."""
    if not is_fork_rule(rule):
        return None
    _, one, other = rule
    found = []
    if other in least:
        found.append(lengths[one] + least[other])
    if one in least:
        found.append(least[one] + lengths[other])
    return min(found, default=None)
