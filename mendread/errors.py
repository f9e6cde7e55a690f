"""The refusals. A point in a docstring of this package is one of DOC.md."""


class MendError(ValueError):
    """Any refusal."""


class BadRule(MendError):
    """A grammar without rules, with too many, or with something that is no rule."""


class NoName(MendError):
    """A rule speaks of a name that has no rule."""


class Endless(MendError):
    """A name stands for no text."""


class BadText(MendError):
    """Something that is no text by point 2."""


class BadDeeds(MendError):
    """Deeds that cannot be done to the text."""
