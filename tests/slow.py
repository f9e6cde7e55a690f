"""Slow counts, straight from the document, that the program's costs are held against."""


def stretches(text):
    """All stretches of the text: pairs of begin and end, which may be the same."""
    return [(begin, end) for begin in range(len(text) + 1) for end in range(begin, len(text) + 1)]


def leaf_cost(sign, text, begin, end):
    """Points 6 and 8: the least count of signs put in, changed or left out, over all kept places."""
    if begin == end:
        return 1
    counts = []
    for kept in range(begin, end):
        count = 0
        for place in range(begin, end):
            if place != kept or text[place] != sign:
                count += 1
        counts.append(count)
    return min(counts)


def rule_cost(rule, text, table, begin, end):
    """Point 10: what a rule comes to over a stretch by the costs of the table."""
    if len(rule) == 2:
        return leaf_cost(rule[1], text, begin, end)
    return min(table[rule[1], begin, place] + table[rule[2], place, end] for place in range(begin, end + 1))


def tree_cost(rules, text, name, stretch, depth, known):
    """Points 5 to 8: the cost of the cheapest tree with at most this many forks above each leaf.

    None where there is no such tree. Counts that were made once are kept in known.
    """
    key = (name, stretch, depth)
    if key not in known:
        begin, end = stretch
        found = [leaf_cost(rule[1], text, begin, end) for rule in rules if rule[0] == name and len(rule) == 2]
        for rule in rules:
            if rule[0] == name and len(rule) == 3 and depth > 0:
                for place in range(begin, end + 1):
                    one = tree_cost(rules, text, rule[1], (begin, place), depth - 1, known)
                    other = tree_cost(rules, text, rule[2], (place, end), depth - 1, known)
                    if one is not None and other is not None:
                        found.append(one + other)
        known[key] = min(found, default=None)
    return known[key]


def slow_costs(rules, text):
    """The table by the count of trees.

    A cheapest tree needs no fork below one of the same name and stretch, as the lower one alone is
    cheaper. So above each leaf there are at most as many forks as there are pairs of name and length.
    """
    names = {rule[0] for rule in rules}
    depth = len(names) * (len(text) + 1)
    known = {}
    return {
        (name, begin, end): tree_cost(rules, text, name, (begin, end), depth, known)
        for name in names for begin, end in stretches(text)
    }


def texts_of(rules, most):
    """From each name to the set of the texts of at most this many signs that it stands for (point 3)."""
    texts = {rule[0]: set() for rule in rules}
    grown = True
    while grown:
        grown = False
        for rule in rules:
            if len(rule) == 2:
                new = {rule[1]}
            else:
                new = {one + other for one in texts[rule[1]] for other in texts[rule[2]] if len(one + other) <= most}
            if not new <= texts[rule[0]]:
                texts[rule[0]] |= new
                grown = True
    return texts


def distance(one, other):
    """The fewest signs to put in, leave out or change, for the one text to become the other."""
    row = list(range(len(other) + 1))
    for at, sign in enumerate(one):
        last, row = row, [at + 1]
        for place, wanted in enumerate(other):
            row.append(min(last[place] + (sign != wanted), last[place + 1] + 1, row[place] + 1))
    return row[-1]


def told_tree(rules, text, table, name, begin, end):
    """Point 11, word by word, by the costs of the table."""
    cost = table[name, begin, end]
    for rule in rules:
        if rule[0] != name or rule_cost(rule, text, table, begin, end) != cost:
            continue
        if len(rule) == 2:
            places = [place for place in range(begin, end) if text[place] == rule[1]] + list(range(begin, end))
            return (name, rule[1], begin, end, places[0] if places else None)
        for place in range(begin, end + 1):
            if table[rule[1], begin, place] + table[rule[2], place, end] == cost:
                one = told_tree(rules, text, table, rule[1], begin, place)
                return (name, one, told_tree(rules, text, table, rule[2], place, end))
    raise AssertionError("no rule comes to the cost")


def all_trees(rules, text, name, begin, end, depth):
    """All trees of the name over the stretch with at most this many forks above each leaf."""
    found = []
    for rule in rules:
        if rule[0] == name and len(rule) == 2:
            keepable = range(begin, end) if begin < end else [None]
            found.extend((name, rule[1], begin, end, kept) for kept in keepable)
        elif rule[0] == name and depth > 0:
            for place in range(begin, end + 1):
                ones = all_trees(rules, text, rule[1], begin, place, depth - 1)
                others = all_trees(rules, text, rule[2], place, end, depth - 1)
                found.extend((name, one, other) for one in ones for other in others)
    return found


def what_it_is(rules, text, thing):
    """The name, begin and end of a tree by points 5 to 7, of which the thing is one; None where it is none."""
    if type(thing) is not tuple or len(thing) not in (3, 5):
        return None
    if type(thing[0]) is not str:
        return None
    if len(thing) == 3:
        one = what_it_is(rules, text, thing[1])
        other = what_it_is(rules, text, thing[2])
        if one is None or other is None or one[2] != other[1] or (thing[0], one[0], other[0]) not in rules:
            return None
        return (thing[0], one[1], other[2])
    name, sign, begin, end, kept = thing
    if type(sign) is not str or (name, sign) not in rules or type(begin) is not int or type(end) is not int:
        return None
    if begin not in range(len(text) + 1) or end not in range(begin, len(text) + 1):
        return None
    if begin == end:
        good = kept is None
    else:
        good = type(kept) is int and kept in range(begin, end)
    return (name, begin, end) if good else None


def count_of(tree, text):
    """Point 8: how many signs the tree puts in, changes and leaves out, counted place by place."""
    if len(tree) == 3:
        return count_of(tree[1], text) + count_of(tree[2], text)
    _, sign, begin, end, kept = tree
    if begin == end:
        return 1
    return len([place for place in range(begin, end) if place != kept or text[place] != sign])
