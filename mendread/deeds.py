"""Deeds: what a tree does to a text, one by one, and doing them (point 13)."""

from mendread.errors import BadDeeds
from mendread.grammars import is_sign
from mendread.trees import is_place, leaves_of

PUT = "put"
KEEP = "keep"
CHANGE = "change"
CUT = "cut"


def deeds_of(tree, text):
    """A list of what the tree does to the text, from the left."""
    deeds = []
    for leaf in leaves_of(tree):
        deeds.extend(deeds_of_leaf(leaf, text))
    return deeds


def deeds_of_leaf(leaf, text):
    """As deeds_of, for one leaf."""
    _, sign, begin, end, kept = leaf
    if kept is None:
        return [(PUT, begin, sign)]
    deeds = [(CUT, place) for place in range(begin, end)]
    if text[kept] == sign:
        deeds[kept - begin] = (KEEP, kept)
    else:
        deeds[kept - begin] = (CHANGE, kept, sign)
    return deeds


def done(text, deeds):
    """The text behind the deeds. Deeds that cannot be done to it are refused."""
    signs = []
    place = 0
    for at, deed in enumerate(deeds):
        if not is_deed(deed, place):
            raise BadDeeds(f"deed {at + 1} is none for place {place}")
        if deed[0] != PUT and place == len(text):
            raise BadDeeds(f"deed {at + 1} is behind the text's end")
        signs.append(sign_behind(deed, text))
        if deed[0] != PUT:
            place += 1
    if place < len(text):
        raise BadDeeds(f"place {place} and what is behind it are left over")
    return "".join(signs)


def is_deed(thing, place):
    """True for a tuple that is a deed of point 13 for this place."""
    if not isinstance(thing, tuple) or len(thing) not in (2, 3):
        return False
    # What is no string may not be fit to be compared with one.
    if not isinstance(thing[0], str) or not is_place(thing[1]) or thing[1] != place:
        return False
    if len(thing) == 2:
        return thing[0] in (KEEP, CUT)
    return thing[0] in (PUT, CHANGE) and is_sign(thing[2])


def sign_behind(deed, text):
    """What stands in the text behind the deed: a sign, or nothing where one is cut."""
    if deed[0] == CUT:
        return ""
    if deed[0] == KEEP:
        return text[deed[1]]
    return deed[2]
