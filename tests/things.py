"""Things that are handed in where a text, a name, a sign or a rule should be."""


class Prickly:
    """An object that cannot be compared, measured, shown or kept as a key."""

    def refuse(self, *rest):
        raise RuntimeError("this object was touched")

    __eq__ = __ne__ = __lt__ = __le__ = __gt__ = __ge__ = refuse
    __hash__ = __len__ = __bool__ = __iter__ = __getitem__ = __contains__ = refuse
    __repr__ = __str__ = refuse


NO_TEXTS = [
    None, True, False, 0, 1, -1, 7, 41, 2.5, float("nan"), b"", b"a", bytearray(b"a"),
    [], ["a"], ["a", "x"], {}, {"a": "x"}, (), ("a",), ("a", "x"), {"a"}, frozenset("a"),
    object(), str, len, range(1), Ellipsis, NotImplemented, Prickly(),
]

NO_TUPLES = [thing for thing in NO_TEXTS if not isinstance(thing, tuple)] + [
    "", "a", "ax", "a x", ["a", "b", "c"], {"a": "b", "c": "d"}, iter(("a", "x")),
]

SIGNS = [chr(number) for number in range(32, 127) if number != 37]

NO_SIGNS = NO_TEXTS + [
    "", "ab", "  ", "xx", "a" * 41, chr(37), "\n", "\t", "\r", "\0", "\x1f", "\x7f", "\x80", "\xa0", "\u00e9",
    "\u00df", "\u20ac", "\u2028", "\uff41", "\U0001f600", "\ud800", "a\n", "a\u0301",
]

NO_NAMES = NO_TEXTS + [
    "", "a" * 13, "a" * 40, "A", "Z", "aB", "Ab", "ABC", "a1", "1", "1a", "a b", " a", "a ", " ", "a_b", "_",
    "a-b", "`", "{", "a`", "a{", "@", "[", "\n", "a\n", "\u00e9", "caf\u00e9", "\u00df", "\u0430", "\uff41", "a\0",
    chr(37), "\ud800",
]
