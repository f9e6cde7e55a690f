"""Trees: where they lie, what they cost, and what mends a text (points 5 to 8).

The document sets no bound on how deep a tree is, so no function here calls itself.
"""

from mendread.grammars import is_name, is_sign, top_of


def is_place(thing):
    """True for a whole number."""
    # Python counts True and False among its whole numbers.
    return isinstance(thing, int) and not isinstance(thing, bool)


def is_fork(tree):
    """True for a fork, False for a leaf."""
    return len(tree) == 3


def leaves_of(tree):
    """A list of the leaves, from the left."""
    leaves = []
    waiting = [tree]
    while waiting:
        part = waiting.pop()
        if is_fork(part):
            waiting.extend([part[2], part[1]])
        else:
            leaves.append(part)
    return leaves


def stretch_of(tree):
    """The pair of begin and end."""
    first = tree
    while is_fork(first):
        first = first[1]
    last = tree
    while is_fork(last):
        last = last[2]
    return (first[2], last[3])


def mended(tree):
    """The text of the leaves' signs."""
    return "".join([leaf[1] for leaf in leaves_of(tree)])


def cost_of(tree, text):
    """How many signs are put in, changed or left out."""
    return sum([cost_of_leaf(leaf, text) for leaf in leaves_of(tree)])


def cost_of_leaf(leaf, text):
    """As cost_of, for one leaf."""
    _, sign, begin, end, kept = leaf
    if kept is None:
        return 1
    if text[kept] == sign:
        return end - begin - 1
    return end - begin


def holds(rules, text, tree):
    """True where the thing is a tree of the top over the whole text, else False, of any thing."""
    if name_told(tree) != top_of(rules):
        return False
    place = 0
    waiting = [tree]
    while waiting:
        part = waiting.pop()
        if not has_rule(rules, part):
            return False
        if is_fork(part):
            waiting.extend([part[2], part[1]])
        elif lies_from(part, place):
            place = part[3]
        else:
            return False
    # No leaf ends ahead of its begin, so none of them lies beyond the text where the last one ends with it.
    return place == len(text)


def name_told(thing):
    """The name of what has as many parts as a leaf or a fork; None where there is none."""
    if isinstance(thing, tuple) and len(thing) in (3, 5) and is_name(thing[0]):
        return thing[0]
    return None


def has_rule(rules, part):
    """True where the grammar has the rule of something that has a name by name_told."""
    if is_fork(part):
        return (part[0], name_told(part[1]), name_told(part[2])) in rules
    return is_sign(part[1]) and (part[0], part[1]) in rules


def lies_from(leaf, place):
    """True where the leaf lies over a stretch that begins at the place, and has a kept place fit for it."""
    _, _, begin, end, kept = leaf
    if not is_place(begin) or not is_place(end) or begin != place:
        return False
    if begin == end:
        return kept is None
    return is_place(kept) and begin <= kept < end
