"""How the tests ask whether something is refused."""

import unittest

from mendread.errors import MendError


class Refusing(unittest.TestCase):
    def just(self, refusal, ask, *asked):
        """Asking so is refused with just this class, which is a MendError and a ValueError."""
        with self.assertRaises(ValueError) as caught:
            ask(*asked)
        self.assertIs(type(caught.exception), refusal)
        self.assertIsInstance(caught.exception, MendError)
