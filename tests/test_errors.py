"""The errors of the interface: their classes, and the values that stand behind them."""

import unittest

from causalports import errors
from causalports.errors import BadLogs, BadText, NotYet, PortError, Stale

PLAIN = ("BadSite", "BadRules", "BadNow", "BadKey", "BadWorth", "BadToken", "BadCount", "BadWants")
WITH_VALUES = ("NotYet", "Stale", "BadLogs", "BadText")


class Classes(unittest.TestCase):
    def test_port_error_is_a_value_error(self):
        self.assertEqual(PortError.__bases__, (ValueError,))

    def test_each_is_a_port_error_and_none_is_under_another(self):
        for name in PLAIN + WITH_VALUES:
            with self.subTest(name=name):
                self.assertEqual(getattr(errors, name).__bases__, (PortError,))
                self.assertTrue(issubclass(getattr(errors, name), ValueError))

    def test_there_are_no_others(self):
        found = [name for name, thing in vars(errors).items() if isinstance(thing, type)]
        self.assertEqual(sorted(found), sorted(PLAIN + WITH_VALUES + ("PortError",)))

    def test_each_is_defined_in_its_file_and_under_its_name(self):
        for name in PLAIN + WITH_VALUES + ("PortError",):
            with self.subTest(name=name):
                self.assertEqual(getattr(errors, name).__module__, "causalports.errors")
                self.assertEqual(getattr(errors, name).__name__, name)

    def test_the_plain_ones_are_raised_with_and_without_words(self):
        for name in PLAIN:
            with self.subTest(name=name):
                with self.assertRaises(PortError):
                    raise getattr(errors, name)()
                with self.assertRaisesRegex(ValueError, "words"):
                    raise getattr(errors, name)("words")


class Values(unittest.TestCase):
    def test_not_yet_carries_what_lacks(self):
        self.assertEqual(NotYet([(0, 3), (2, 1)]).lacks, [(0, 3), (2, 1)])

    def test_not_yet_keeps_no_list_that_was_handed_in(self):
        lacks = [(0, 3)]
        error = NotYet(lacks)
        lacks.append((1, 1))
        self.assertEqual(error.lacks, [(0, 3)])

    def test_stale_carries_by_how_many(self):
        self.assertEqual(Stale(7).by, 7)
        self.assertEqual(Stale(0).by, 0)
        self.assertIsNone(Stale(None).by)

    def test_bad_logs_carries_site_and_row(self):
        error = BadLogs(3, -1)
        self.assertEqual((error.site, error.row), (3, -1))

    def test_bad_text_carries_the_row(self):
        self.assertEqual(BadText(12).row, 12)

    def test_each_is_caught_as_a_port_error_with_its_values(self):
        for error, name, value in (
            (NotYet([(1, 2)]), "lacks", [(1, 2)]),
            (Stale(5), "by", 5),
            (BadLogs(1, 4), "site", 1),
            (BadLogs(1, 4), "row", 4),
            (BadText(9), "row", 9),
        ):
            with self.subTest(name=name, error=error):
                with self.assertRaises(PortError) as caught:
                    raise error
                self.assertEqual(getattr(caught.exception, name), value)


if __name__ == "__main__":
    unittest.main()
