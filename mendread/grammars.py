"""Signs, names, rules and texts: what they are, and how others are refused (points 2 to 4)."""

from mendread.errors import BadRule, BadText, Endless, NoName

MOST_RULES = 40
MOST_SIGNS = 40
MOST_LETTERS = 12

# The signs are told by their numbers, as LANGUAGE.md bars the percent sign from strings (L27).
BLANK = 32
PERCENT = 37
TILDE = 126


def is_sign(thing):
    """True for a text of one ASCII sign from the blank to ~, but not the percent sign."""
    if not isinstance(thing, str) or len(thing) != 1:
        return False
    number = ord(thing)
    return BLANK <= number <= TILDE and number != PERCENT


def is_name(thing):
    """True for a text of 1 to 12 letters from a to z."""
    if not isinstance(thing, str) or len(thing) < 1 or len(thing) > MOST_LETTERS:
        return False
    return all("a" <= letter <= "z" for letter in thing)


def is_rule(thing):
    """True for a tuple (name, sign) or (name, one, other)."""
    if not isinstance(thing, tuple):
        return False
    if len(thing) == 2:
        return is_name(thing[0]) and is_sign(thing[1])
    return len(thing) == 3 and all(is_name(part) for part in thing)


def is_fork_rule(rule):
    """True for (name, one, other), False for (name, sign)."""
    return len(rule) == 3


def need_rules(rules):
    """A new list of the rules. What is no grammar is refused, in the order of point 4."""
    need_only_rules(rules)
    need_known_names(rules)
    need_ends(rules)
    return list(rules)


def need_only_rules(rules):
    """Refuse a grammar that is empty, too long, or holds something that is no rule."""
    if len(rules) == 0:
        raise BadRule("a grammar has at least one rule")
    for at, rule in enumerate(rules):
        # The message does not show the thing: it may be of a kind that cannot be shown.
        if at >= MOST_RULES:
            raise BadRule(f"rule {at + 1} is one too many")
        if not is_rule(rule):
            raise BadRule(f"rule {at + 1} is no rule")


def need_known_names(rules):
    """Refuse a name one or other that has no rule."""
    known = names_of(rules)
    for at, rule in enumerate(rules):
        if is_fork_rule(rule):
            for name in rule[1:]:
                if name not in known:
                    raise NoName(f"rule {at + 1} needs {name}, which has no rule")


def need_ends(rules):
    """Refuse a name that stands for no text."""
    lengths = lengths_of(rules)
    for name in names_of(rules):
        if name not in lengths:
            raise Endless(f"{name} stands for no text")


def need_text(text):
    """The text. What is none by point 2 is refused."""
    if not isinstance(text, str):
        raise BadText("a text is a string")
    if len(text) > MOST_SIGNS:
        raise BadText(f"a text has at most {MOST_SIGNS} signs")
    for place, sign in enumerate(text):
        if not is_sign(sign):
            raise BadText(f"what stands at place {place} is no sign")
    return text


def names_of(rules):
    """A list of the names in the order of their first rules."""
    return list({rule[0]: True for rule in rules})


def top_of(rules):
    """The grammar's top."""
    return rules[0][0]


def lengths_of(rules):
    """From each name that stands for a text to the length of the shortest such text.

    Names may lean on each other in a circle, so the rules are gone through until nothing is lowered.
    """
    lengths = {}
    lowered = True
    while lowered:
        lowered = False
        for rule in rules:
            length = length_by(rule, lengths)
            if length is not None and keep_lesser(lengths, rule[0], length):
                lowered = True
    return lengths


def length_by(rule, lengths):
    """The length that the rule comes to by the lengths known so far, None where one is missing."""
    if not is_fork_rule(rule):
        return 1
    _, one, other = rule
    if one in lengths and other in lengths:
        return lengths[one] + lengths[other]
    return None


def keep_lesser(least, name, number):
    """Keep the number as the name's if it has no number or a greater one; True where it is kept."""
    if name in least and least[name] <= number:
        return False
    least[name] = number
    return True
