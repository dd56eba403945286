"""What several tests do alike."""

import unittest

from causalports.errors import PortError
from causalports.sites import Site

RULES = ("sum", "most", "last", "all")


class Case(unittest.TestCase):
    def refuse(self, error, asked, *given, **named):
        """Test that it is refused by just this class, and give the error."""
        with self.assertRaises(error) as caught:
            asked(*given, **named)
        self.assertIs(type(caught.exception), error)
        self.assertIsInstance(caught.exception, PortError)
        return caught.exception

    def pair(self):
        return Site(0, 2, RULES), Site(1, 2, RULES)

    def tell(self, teller, now, to, hearer):
        hearer.hear(teller.letter(now, to))
