"""Point 2: tokens, joined and compared."""

import unittest
from itertools import product

from causalports.errors import BadToken, PortError
from causalports.tokens import compared, joined

TURNED = {"same": "same", "less": "more", "more": "less", "apart": "apart"}

NO_TOKENS = (
    # no tuple
    None, True, False, 0, 2, "", "0 0", "00", [], [0, 0], [1, 2, 3],
    # not 2 to 5 sites
    (), (0,), (999,), (0, 0, 0, 0, 0, 0), (1, 2, 3, 4, 5, 6), (0,) * 7,
    # a count below 0 or above 999
    (-1, 0), (0, -1), (1000, 0), (0, 1000), (0, 0, -1), (0, 0, 0, 0, 1000), (5, -999), (10 ** 6, 0),
    # a member that is no whole number
    (True, 0), (0, False), (True, True), (0, 0, True), (None, 0), (0, None), ("0", 0), (0, "1"), (0, ""),
    ((0,), 0), (0, (0, 0)), ([0], 0), (0, []), (0, 0, 0, 0, None),
)

TOKENS = (
    (0, 0), (999, 999), (0, 999), (3, 4), (0, 0, 0), (1, 2, 3), (999, 0, 999), (0, 0, 0, 0), (1, 2, 3, 4),
    (0, 0, 0, 0, 0), (5, 4, 3, 2, 1), (999, 999, 999, 999, 999),
)


def told_by_words(one, other):
    """Tell what compared should tell, pair by pair of the counts."""
    signs = {(mine > theirs) - (mine < theirs) for mine, theirs in zip(one, other)}
    if signs == {0}:
        return "same"
    if 1 not in signs:
        return "less"
    if -1 not in signs:
        return "more"
    return "apart"


def pairs():
    """Give pairs of tokens of two to five sites."""
    for many, counts in ((2, (0, 1, 2, 500, 998, 999)), (3, (0, 7, 999)), (4, (0, 999)), (5, (3, 999))):
        tokens = list(product(counts, repeat=many))
        yield from product(tokens, tokens)


class Joined(unittest.TestCase):
    def test_examples(self):
        for one, other, told in (
            ((1, 5), (4, 2), (4, 5)),
            ((0, 0), (0, 0), (0, 0)),
            ((0, 999), (999, 0), (999, 999)),
            ((1, 2, 3), (3, 2, 1), (3, 2, 3)),
            ((9, 10, 99, 100), (10, 9, 100, 99), (10, 10, 100, 100)),
            ((1, 0, 3, 0, 5), (0, 2, 0, 4, 0), (1, 2, 3, 4, 5)),
        ):
            with self.subTest(one=one, other=other):
                self.assertEqual(joined(one, other), told)
                self.assertEqual(joined(other, one), told)

    def test_it_is_a_tuple_of_the_greater_counts(self):
        for one, other in pairs():
            told = joined(one, other)
            self.assertIsInstance(told, tuple)
            self.assertEqual(len(told), len(one))
            for count, mine, theirs in zip(told, one, other):
                self.assertEqual(count, theirs if mine < theirs else mine)

    def test_it_is_told_alike_both_ways_and_again(self):
        for one, other in pairs():
            self.assertEqual(joined(one, other), joined(other, one))
            self.assertEqual(joined(one, other), joined(one, other))

    def test_with_itself(self):
        for token in TOKENS:
            self.assertEqual(joined(token, token), token)

    def test_it_is_no_less_than_either(self):
        for one, other in pairs():
            self.assertIn(compared(one, joined(one, other)), ("same", "less"))
            self.assertIn(compared(joined(one, other), other), ("same", "more"))


class Compared(unittest.TestCase):
    def test_examples(self):
        for one, other, told in (
            ((0, 0), (0, 0), "same"),
            ((999, 999), (999, 999), "same"),
            ((0, 0), (0, 1), "less"),
            ((0, 0), (999, 999), "less"),
            ((999, 998), (999, 999), "less"),
            ((2, 1), (1, 1), "more"),
            ((0, 1), (1, 0), "apart"),
            ((0, 999), (999, 0), "apart"),
            ((9, 10), (10, 9), "apart"),
            ((1, 2, 3), (1, 2, 3), "same"),
            ((1, 2, 3), (1, 2, 4), "less"),
            ((1, 3, 3), (1, 2, 3), "more"),
            ((0, 5, 5), (5, 5, 0), "apart"),
            ((1, 1, 1, 0), (1, 1, 0, 1), "apart"),
            ((1, 1, 1, 1, 1), (1, 1, 1, 1, 2), "less"),
            ((2, 1, 1, 1, 1), (1, 1, 1, 1, 1), "more"),
            ((2, 1, 1, 1, 1), (1, 1, 1, 1, 2), "apart"),
        ):
            with self.subTest(one=one, other=other):
                self.assertEqual(compared(one, other), told)
                self.assertEqual(compared(other, one), TURNED[told])

    def test_all_pairs_are_told_by_the_words(self):
        for one, other in pairs():
            self.assertEqual(compared(one, other), told_by_words(one, other))

    def test_with_itself(self):
        for token in TOKENS:
            self.assertEqual(compared(token, token), "same")
            self.assertEqual(compared(token, tuple(list(token))), "same")


class Refused(unittest.TestCase):
    def refuse(self, one, other):
        for asked in (joined, compared):
            with self.assertRaises(BadToken) as caught:
                asked(one, other)
            self.assertIs(type(caught.exception), BadToken)
            self.assertIsInstance(caught.exception, PortError)
            self.assertIsInstance(caught.exception, ValueError)

    def test_what_is_no_token_in_either_place(self):
        for wrong in NO_TOKENS:
            for token in TOKENS:
                with self.subTest(wrong=wrong, token=token):
                    self.refuse(wrong, token)
                    self.refuse(token, wrong)

    def test_what_is_no_token_in_both_places(self):
        for one in NO_TOKENS:
            for other in NO_TOKENS:
                with self.subTest(one=one, other=other):
                    self.refuse(one, other)

    def test_a_count_too_long_to_be_shown(self):
        self.refuse((10 ** 5000, 0), (0, 0))
        self.refuse((0, 0), (0, -10 ** 5000))

    def test_tokens_of_unlike_many_sites(self):
        for one, other in product(TOKENS, TOKENS):
            if len(one) != len(other):
                with self.subTest(one=one, other=other):
                    self.refuse(one, other)

    def test_a_token_ahead_of_its_own_beginning(self):
        self.refuse((0, 0), (0, 0, 0))
        self.refuse((1, 2, 3, 4, 5), (1, 2, 3, 4))

    def test_the_bounds_are_not_refused(self):
        for many in range(2, 6):
            self.assertEqual(compared((0,) * many, (999,) * many), "less")
            self.assertEqual(joined((0,) * many, (999,) * many), (999,) * many)

    def test_what_was_refused_changes_nothing(self):
        wrong = [0, 0]
        self.refuse(wrong, (1, 1))
        self.assertEqual(wrong, [0, 0])
        self.assertEqual(joined((0, 1), (1, 0)), (1, 1))
        self.assertEqual(compared((0, 1), (1, 0)), "apart")


if __name__ == "__main__":
    unittest.main()
