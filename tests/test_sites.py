"""Points 5 to 8: a site, one promise after the other, its refusals and their bounds."""

import unittest
from itertools import product

from causalports.errors import BadCount, BadKey, BadNow, BadRules, BadSite, BadToken, BadWorth, NotYet, Stale
from causalports.rules import plainly
from causalports.sites import Site
from cases import RULES, Case

NO_NUMBERS = (None, True, False, "", "0", "1", (), (0,), [], [1])

NO_SITES = NO_NUMBERS + (-1, -2, 5, 6, 999)
NO_MANY = NO_NUMBERS + (-1, 0, 1, 6, 7, 999)
NO_RULES = (None, True, 0, "", "sum", [], ["sum"], (), ("sum",) * 7, ("Sum",), ("least",), (None,), ("sum", ["all"]))
NO_NOWS = NO_NUMBERS + (-1, -10 ** 9, 10 ** 6 + 1, 10 ** 9, 10 ** 5000)
NO_KEYS = NO_NUMBERS + (-1, 4, 5, 999, -10 ** 5000)
NO_WORTHS = NO_NUMBERS + (-1000, 1000, 10 ** 9, -10 ** 5000)
NO_TOKENS = (
    False, True, 0, "", "0 0", [], [0, 0], (), (0,), (0, 0, 0), (0, 0, 0, 0, 0), (-1, 0), (0, -1), (1000, 0), (0, 1000),
    (True, 0), (0, False), (None, 0), ("0", 0), ([0], 0), (0, (0,)),
)
NO_WITHINS = (False, True, "", "0", (), (0,), [], [1], -1, -999, 1000, 10 ** 6)


class Making(Case):
    def test_each_site_of_two_to_five(self):
        for many in range(2, 6):
            for number in range(many):
                port = Site(number, many, RULES)
                self.assertEqual(port.applied(), (0,) * many)
                self.assertEqual((port.log(), port.waiting(), port.kept()), ([], [], 0))
                self.assertIsNone(port.stale(0))
                self.assertEqual([port.look(0, key) for key in range(4)], [0, None, None, []])
                self.assertEqual(port.put(0, 0, 1)[number], 1)

    def test_what_is_no_site(self):
        for wrong in NO_SITES:
            self.refuse(BadSite, Site, wrong, 5, RULES)
        for many in range(2, 6):
            self.refuse(BadSite, Site, many, many, RULES)

    def test_what_is_not_how_many_sites_there_may_be(self):
        for wrong in NO_MANY:
            self.refuse(BadSite, Site, 0, wrong, RULES)

    def test_what_is_no_rules(self):
        for wrong in NO_RULES:
            self.refuse(BadRules, Site, 0, 2, wrong)

    def test_the_sites_are_refused_ahead_of_the_rules(self):
        for wrong in NO_RULES:
            self.refuse(BadSite, Site, 2, 2, wrong)
            self.refuse(BadSite, Site, 0, 6, wrong)

    def test_rules_of_one_to_six_words(self):
        for many in range(1, 7):
            port = Site(0, 2, ("last",) * many)
            port.put(0, many - 1, 5)
            self.assertEqual(port.look(0, many - 1), 5)
            self.refuse(BadKey, port.look, 0, many)


def asked_with(port, number):
    """Give each way to hand a moment to a site that has not made 999 puts."""
    return (
        lambda now: port.put(now, 0, 1),
        lambda now: port.look(now, 0),
        lambda now: port.letter(now, 1 - number),
        lambda now: port.stale(now),
    )


class Moments(Case):
    def test_bounds(self):
        for at in range(4):
            for now in (0, 1, 999, 10 ** 6 - 1, 10 ** 6):
                asked_with(Site(0, 2, RULES), 0)[at](now)
            for wrong in NO_NOWS:
                self.refuse(BadNow, asked_with(Site(0, 2, RULES), 0)[at], wrong)

    def test_they_never_fall_whatever_was_asked(self):
        for first, second in product(range(4), range(4)):
            asked = asked_with(Site(0, 2, RULES), 0)
            asked[first](100)
            self.refuse(BadNow, asked[second], 99)
            self.refuse(BadNow, asked[second], 0)
            asked[second](100)
            asked[second](101)
            self.refuse(BadNow, asked[first], 100)
            asked[first](10 ** 6)
            self.refuse(BadNow, asked[second], 10 ** 6 - 1)
            asked[second](10 ** 6)

    def test_what_is_refused_moves_no_moment(self):
        port = Site(0, 2, RULES)
        port.look(5, 0)
        for error, asked in (
            (BadNow, lambda: port.put(10 ** 6 + 1, 0, 1)),
            (BadKey, lambda: port.put(50, 4, 1)),
            (BadWorth, lambda: port.put(50, 0, 1000)),
            (BadToken, lambda: port.put(50, 0, 1, token=(0,))),
            (NotYet, lambda: port.put(50, 0, 1, token=(1, 0))),
            (BadKey, lambda: port.look(50, -1)),
            (BadToken, lambda: port.look(50, 0, token=(0, 0, 0))),
            (NotYet, lambda: port.look(50, 0, token=(0, 1))),
            (BadCount, lambda: port.look(50, 0, within=1000)),
            (Stale, lambda: port.look(50, 0, within=999)),
            (BadSite, lambda: port.letter(50, 0)),
        ):
            self.refuse(error, asked)
            self.refuse(BadNow, port.stale, 4)
            self.assertEqual(port.look(5, 0), 0)

    def test_what_is_heard_moves_no_moment(self):
        one, other = self.pair()
        one.hear(other.letter(700, 0))
        self.assertEqual(one.put(3, 0, 1), (1, 0))

    def test_each_site_has_its_own(self):
        one, other = self.pair()
        one.put(700, 0, 1)
        other.put(3, 0, 1)
        self.refuse(BadNow, one.put, 3, 0, 1)


class Puts(Case):
    def test_it_is_applied_at_once_and_the_token_is_told(self):
        for many in range(2, 6):
            for number in range(many):
                port = Site(number, many, RULES)
                for made in range(1, 6):
                    token = tuple(made if at == number else 0 for at in range(many))
                    self.assertEqual(port.put(made, 0, made), token)
                    self.assertEqual(port.applied(), token)
                    self.assertEqual(port.look(made, 0), sum(range(made + 1)))

    def test_its_parts(self):
        port = Site(1, 3, RULES)
        port.put(0, 0, -999)
        port.put(0, 3, 999)
        port.put(4, 2, 0)
        self.assertEqual(port.log(), [
            (1, 1, (0, 0, 0), 1, 0, -999),
            (1, 2, (0, 1, 0), 2, 3, 999),
            (1, 3, (0, 2, 0), 3, 2, 0),
        ])

    def test_past_and_turn_behind_what_was_heard(self):
        one, other = self.pair()
        for worth in range(4):
            one.put(0, 0, worth)
        other.put(0, 0, 7)
        other.put(0, 1, 8)
        self.tell(one, 0, 1, other)
        self.assertEqual(other.put(0, 2, 9), (4, 3))
        self.assertEqual(other.log()[-1], (1, 3, (4, 2), 5, 2, 9))
        self.tell(other, 0, 0, one)
        one.put(0, 2, 6)
        self.assertEqual(one.log()[-1], (0, 5, (4, 3), 6, 2, 6))

    def test_a_turn_is_one_more_than_the_greatest_though_heard_first(self):
        one, other, third = [Site(number, 3, RULES) for number in range(3)]
        for worth in range(5):
            one.put(0, 0, worth)
        other.put(0, 0, 1)
        self.tell(one, 0, 2, third)
        self.tell(other, 0, 2, third)
        third.put(0, 0, 9)
        self.assertEqual(third.log()[-1], (2, 1, (5, 1, 0), 6, 0, 9))

    def test_looks_by_each_rule(self):
        one, other = self.pair()
        for key in range(4):
            one.put(0, key, 30)
            other.put(0, key, 20)
        self.tell(other, 0, 0, one)
        self.assertEqual([one.look(0, key) for key in range(4)], [50, 30, 20, [30, 20]])
        self.assertEqual([other.look(0, key) for key in range(4)], [20, 20, 20, [20]])
        one.put(0, 3, 5)
        self.assertEqual(one.look(0, 3), [5])
        self.assertEqual([one.look(0, key) for key in range(4)],
                         [plainly(one.log(), RULES, key) for key in range(4)])

    def test_keys_and_worths_at_their_bounds(self):
        port = Site(0, 2, RULES)
        for key, worth in product((0, 3), (-999, 999, 0)):
            port.put(0, key, worth)
            self.assertEqual(port.log()[-1][4:], (key, worth))

    def test_what_is_no_key_or_no_worth(self):
        port = Site(0, 2, RULES)
        for wrong in NO_KEYS:
            self.refuse(BadKey, port.put, 0, wrong, 1)
            self.refuse(BadKey, port.look, 0, wrong)
        for wrong in NO_WORTHS:
            self.refuse(BadWorth, port.put, 0, 0, wrong)
        self.assertEqual((port.applied(), port.log()), ((0, 0), []))


class AThousand(Case):
    def full(self):
        port = Site(0, 2, RULES)
        for made in range(1, 1000):
            self.assertEqual(port.put(made, made % 4, made), (made, 0))
        return port

    def test_999_puts_and_the_one_behind(self):
        port = self.full()
        before = port.log()
        self.assertEqual(before[-1], (0, 999, (998, 0), 999, 3, 999))
        for _ in range(2):
            self.refuse(BadCount, port.put, 999, 0, 1)
            self.assertEqual((port.log(), port.applied(), port.kept()), (before, (999, 0), 999))
        self.assertEqual(port.look(999, 3), [999])
        self.refuse(BadCount, port.put, 5000, 0, 1, token=(999, 0))
        self.assertEqual(port.look(999, 2), 998)

    def test_all_else_is_refused_ahead(self):
        port = self.full()
        self.refuse(BadNow, port.put, 998, 4, 1000, token=())
        self.refuse(BadKey, port.put, 999, 4, 1000, token=())
        self.refuse(BadWorth, port.put, 999, 0, 1000, token=())
        self.refuse(BadToken, port.put, 999, 0, 1, token=())
        self.assertEqual(self.refuse(NotYet, port.put, 999, 0, 1, token=(999, 1)).lacks, [(1, 1)])

    def test_they_are_heard_and_the_other_site_still_puts(self):
        port, other = self.full(), Site(1, 2, RULES)
        self.tell(port, 999, 1, other)
        self.assertEqual((other.applied(), other.log()), ((999, 0), port.log()))
        self.assertEqual(other.put(0, 0, 7), (999, 1))
        self.assertEqual(other.log()[-1], (1, 1, (999, 0), 1000, 0, 7))
        self.tell(other, 0, 0, port)
        self.assertEqual((port.applied(), port.kept()), ((999, 1), 0))
        self.refuse(BadCount, port.put, 999, 0, 1)


class Tokens(Case):
    def test_what_is_no_token(self):
        port = Site(0, 2, RULES)
        for wrong in NO_TOKENS:
            self.refuse(BadToken, port.put, 0, 0, 1, token=wrong)
            self.refuse(BadToken, port.look, 0, 0, token=wrong)
        for many in range(2, 6):
            port = Site(0, many, RULES)
            self.assertEqual(port.look(0, 0, token=(0,) * many), 0)
            for other in range(2, 6):
                if other != many:
                    self.refuse(BadToken, port.look, 0, 0, token=(0,) * other)
                    self.refuse(BadToken, port.put, 0, 0, 1, token=(999,) * other)
        self.assertEqual(port.log(), [])

    def test_none_is_as_if_left_out(self):
        port = Site(0, 2, RULES)
        self.assertEqual(port.put(0, 0, 4, token=None), (1, 0))
        self.assertEqual(port.look(0, 0, within=None, token=None), 4)

    def test_just_the_first_lacking_put_of_each_site(self):
        one, other, third = [Site(number, 3, RULES) for number in range(3)]
        for _ in range(3):
            one.put(0, 0, 1)
        for _ in range(2):
            third.put(0, 0, 1)
        self.tell(third, 0, 0, one)
        self.assertEqual(one.applied(), (3, 0, 2))
        for token, lacks in (
            ((3, 0, 3), [(2, 3)]),
            ((3, 0, 999), [(2, 3)]),
            ((4, 0, 0), [(0, 4)]),
            ((0, 1, 0), [(1, 1)]),
            ((999, 999, 999), [(0, 4), (1, 1), (2, 3)]),
            ((0, 5, 5), [(1, 1), (2, 3)]),
        ):
            before = (one.log(), one.applied(), one.kept(), one.stale(0))
            for asked in (lambda: one.look(9, 0, token=token), lambda: one.put(9, 0, 1, token=token)):
                self.assertEqual(self.refuse(NotYet, asked).lacks, lacks)
                self.assertEqual(self.refuse(NotYet, asked).lacks, lacks)
            self.assertEqual((one.log(), one.applied(), one.kept(), one.stale(0)), before)
        for token in ((0, 0, 0), (3, 0, 2), (3, 0, 0), (0, 0, 2), (1, 0, 1)):
            self.assertEqual(one.look(0, 0, token=token), 5)

    def test_a_put_by_a_token_comes_behind_it(self):
        one, other = self.pair()
        token = one.put(0, 0, 1)
        self.refuse(NotYet, other.put, 0, 0, 2, token=token)
        self.tell(one, 0, 1, other)
        self.assertEqual(other.put(0, 0, 2, token=token), (1, 1))
        self.assertEqual(other.log()[-1][2], (1, 0))

    def test_the_list_of_what_lacks_may_be_changed(self):
        port = Site(0, 2, RULES)
        self.refuse(NotYet, port.look, 0, 0, token=(1, 1)).lacks.clear()
        self.assertEqual(self.refuse(NotYet, port.look, 0, 0, token=(1, 1)).lacks, [(0, 1), (1, 1)])


class Turns(Case):
    """Of several that are wrong, the one that is handed in first."""

    def test_of_put(self):
        for bad in product((False, True), repeat=4):
            for token, error in (((0,), BadToken), ((1, 0), NotYet)):
                port = Site(0, 2, RULES)
                wrong = [name for name, is_bad in zip((BadNow, BadKey, BadWorth, error), bad) if is_bad]
                given = (-1 if bad[0] else 0, 4 if bad[1] else 0, 1000 if bad[2] else 0)
                if not wrong:
                    port.put(*given, token=None)
                    continue
                self.refuse(wrong[0], port.put, *given, token=token if bad[3] else (0, 0))

    def test_of_look(self):
        for bad in product((False, True), repeat=4):
            for token, error in (((0,), BadToken), ((1, 0), NotYet)):
                for within, last in ((1000, BadCount), (-1, BadCount), (True, BadCount), (999, Stale), (0, Stale)):
                    port = Site(0, 2, RULES)
                    wrong = [name for name, is_bad in zip((BadNow, BadKey, error, last), bad) if is_bad]
                    given = (-1 if bad[0] else 0, 4 if bad[1] else 0)
                    named = {"within": within if bad[3] else None, "token": token if bad[2] else (0, 0)}
                    if not wrong:
                        self.assertEqual(port.look(*given, **named), 0)
                        continue
                    self.refuse(wrong[0], port.look, *given, **named)

    def test_of_letter(self):
        port = Site(0, 2, RULES)
        self.refuse(BadNow, port.letter, -1, 0)
        self.refuse(BadSite, port.letter, 0, 0)


class Letters(Case):
    def test_to_itself_or_to_none(self):
        for many in range(2, 6):
            for number in range(many):
                port = Site(number, many, RULES)
                for to in range(many):
                    if to != number:
                        self.assertIsInstance(port.letter(0, to), tuple)
                for wrong in NO_NUMBERS + (number, -1, many, many + 1, 999):
                    self.refuse(BadSite, port.letter, 0, wrong)

    def test_all_that_was_applied_when_it_was_told_is_applied(self):
        one, other = self.pair()
        one.put(0, 0, 5)
        letter = one.letter(0, 1)
        one.put(0, 0, 6)
        other.hear(letter)
        self.assertEqual((other.applied(), other.look(0, 0)), ((1, 0), 5))
        self.tell(one, 0, 1, other)
        self.assertEqual((other.applied(), other.log()), ((2, 0), one.log()))

    def test_heard_twice_or_late(self):
        one, other = self.pair()
        letters = []
        for worth in range(1, 5):
            one.put(worth, 0, worth)
            letters.append(one.letter(worth, 1))
        for letter in (letters[2], letters[2], letters[0], letters[1], letters[2]):
            other.hear(letter)
            self.assertEqual((other.applied(), other.look(9, 0), other.stale(9)), ((3, 0), 6, 6))
        other.hear(letters[3])
        self.assertEqual((other.applied(), other.look(9, 0), other.stale(9)), ((4, 0), 10, 5))

    def test_one_of_two_that_was_lost(self):
        one, other = self.pair()
        one.put(0, 0, 5)
        one.letter(0, 1)
        one.put(0, 0, 6)
        self.tell(one, 0, 1, other)
        self.assertEqual(other.log(), one.log())

    def test_by_way_of_another_site(self):
        one, other, third = [Site(number, 3, RULES) for number in range(3)]
        one.put(0, 3, 5)
        self.tell(one, 0, 1, other)
        other.put(0, 3, 6)
        self.tell(other, 0, 2, third)
        self.assertEqual((third.applied(), third.look(0, 3)), ((1, 1, 0), [6]))
        self.tell(one, 0, 2, third)
        self.assertEqual((third.applied(), third.log()), ((1, 1, 0), other.log()))

    def test_own_puts_that_come_back(self):
        one, other = self.pair()
        one.put(0, 0, 5)
        self.tell(one, 0, 1, other)
        self.tell(other, 0, 0, one)
        self.assertEqual((one.applied(), one.log(), one.look(0, 0)), ((1, 0), other.log(), 5))

    def test_one_that_is_heard_elsewhere_than_where_it_was_told_for(self):
        one, other, third = [Site(number, 3, RULES) for number in range(3)]
        one.put(0, 0, 5)
        self.tell(one, 0, 1, other)
        self.tell(other, 0, 0, one)
        third.hear(one.letter(0, 1))
        self.assertEqual((third.applied(), third.log()), ((1, 0, 0), one.log()))

    def test_told_again_with_nothing_done_between(self):
        one, other = self.pair()
        one.put(0, 0, 5)
        self.assertEqual(one.letter(3, 1), one.letter(3, 1))
        before = (one.log(), one.applied(), one.kept(), one.stale(3))
        one.letter(3, 1)
        self.assertEqual((one.log(), one.applied(), one.kept(), one.stale(3)), before)

    def test_an_empty_one(self):
        one, other = self.pair()
        self.tell(one, 4, 1, other)
        self.assertEqual((other.applied(), other.log(), other.stale(6)), ((0, 0), [], 2))


class Waiting(Case):
    """Nothing waits at sites that live on; at one that was made anew, letters leave out what it had before."""

    def grown(self):
        """Tell letters of three sites: each later one of site 0 holds just the put that the others lack."""
        one, other, third = [Site(number, 3, RULES) for number in range(3)]
        letters = []
        for worth in (1, 2, 3):
            one.put(0, 0, worth)
            letters.append(one.letter(0, 1))
            for port in (other, third):
                port.hear(letters[-1])
                self.tell(port, 0, 0, one)
            if worth == 1:
                by_way = other.letter(0, 2)
        return one, letters, by_way

    def test_what_came_behind_a_put_that_is_not_applied_waits(self):
        one, letters, by_way = self.grown()
        anew = Site(2, 3, RULES)
        for _ in range(2):
            anew.hear(letters[1])
            self.assertEqual((anew.applied(), anew.log(), anew.look(0, 0)), ((0, 0, 0), [], 0))
            self.assertEqual((anew.waiting(), anew.kept()), ([(0, 2)], 0))

    def test_it_is_applied_as_soon_as_that_is(self):
        one, letters, by_way = self.grown()
        anew = Site(2, 3, RULES)
        anew.hear(letters[1])
        anew.hear(by_way)
        self.assertEqual((anew.applied(), anew.waiting()), ((2, 0, 0), []))
        self.assertEqual((anew.log(), anew.look(0, 0)), (one.log()[:2], 3))

    def test_one_that_waits_for_another_one_that_waits(self):
        one, letters, by_way = self.grown()
        anew = Site(2, 3, RULES)
        anew.hear(letters[2])
        self.assertEqual(anew.waiting(), [(0, 3)])
        anew.hear(letters[1])
        self.assertEqual((anew.waiting(), anew.applied()), ([(0, 2), (0, 3)], (0, 0, 0)))
        anew.put(0, 0, 9)
        self.assertEqual((anew.waiting(), anew.log()), ([(0, 2), (0, 3)], [(2, 1, (0, 0, 0), 1, 0, 9)]))
        anew.hear(letters[0])
        self.assertEqual((anew.waiting(), anew.log()[1:], anew.applied()), ([], one.log(), (3, 0, 1)))

    def test_the_list_may_be_changed(self):
        anew = Site(2, 3, RULES)
        anew.hear(self.grown()[1][2])
        anew.waiting().clear()
        self.assertEqual(anew.waiting(), [(0, 3)])


class Kept(Case):
    def test_until_the_other_site_is_known_to_have_it(self):
        one, other = self.pair()
        one.put(0, 0, 5)
        one.put(0, 0, 6)
        self.assertEqual(one.kept(), 2)
        self.tell(one, 0, 1, other)
        # It is had there, but no letter has told so.
        self.assertEqual((one.kept(), other.kept()), (2, 0))
        self.tell(other, 0, 0, one)
        self.assertEqual(one.kept(), 0)
        one.put(0, 0, 7)
        self.assertEqual(one.kept(), 1)

    def test_what_came_of_a_letter_is_known_to_be_had_where_it_was_told(self):
        one, other, third = [Site(number, 3, RULES) for number in range(3)]
        one.put(0, 0, 5)
        self.tell(one, 0, 1, other)
        # Site 2 has told nothing.
        self.assertEqual(other.kept(), 1)
        self.tell(third, 0, 1, other)
        self.assertEqual(other.kept(), 1)
        self.tell(one, 0, 2, third)
        self.tell(third, 0, 1, other)
        self.assertEqual(other.kept(), 0)
        self.assertEqual(one.kept(), 1)

    def test_what_was_heard_by_way_of_another_site(self):
        one, other, third = [Site(number, 3, RULES) for number in range(3)]
        one.put(0, 0, 5)
        self.tell(one, 0, 1, other)
        self.tell(other, 0, 2, third)
        # No letter of site 0 itself has told that it has the put.
        self.assertEqual(third.kept(), 1)
        self.tell(one, 0, 2, third)
        self.assertEqual(third.kept(), 0)

    def test_an_elder_letter_takes_nothing_back(self):
        one, other = self.pair()
        elder = other.letter(0, 0)
        one.put(0, 0, 5)
        self.tell(one, 0, 1, other)
        self.tell(other, 0, 0, one)
        one.hear(elder)
        self.assertEqual(one.kept(), 0)

    def test_letters_told_ahead_of_any_hearing_twice_over(self):
        for many in range(2, 6):
            sites = [Site(number, many, RULES) for number in range(many)]
            for number, port in enumerate(sites):
                for made in range(number + 1):
                    port.put(0, 3, 10 * number + made)
            for again in (False, True):
                letters = [(to, port.letter(0, to)) for number, port in enumerate(sites)
                           for to in range(many) if to != number]
                for to, letter in letters:
                    sites[to].hear(letter)
                for number, port in enumerate(sites):
                    self.assertEqual(port.applied(), tuple(range(1, many + 1)))
                    self.assertEqual(port.look(0, 3), [11 * at for at in range(many)])
                    # Behind the first time, each site is known to have its own puts alone.
                    first = number + 1 if many == 2 else sum(range(1, many + 1))
                    self.assertEqual((port.waiting(), port.kept()), ([], 0 if again else first))


class Staleness(Case):
    def test_none_until_each_other_site_was_heard(self):
        for many in range(2, 6):
            sites = [Site(number, many, RULES) for number in range(many)]
            for number in range(1, many):
                self.assertIsNone(sites[0].stale(50))
                self.tell(sites[number], 10 + number, 0, sites[0])
            self.assertEqual(sites[0].stale(50), 39)
            self.assertEqual(sites[0].stale(10 ** 6), 10 ** 6 - 11)

    def test_the_site_that_was_heard_longest_ago_counts(self):
        one, other, third = [Site(number, 3, RULES) for number in range(3)]
        self.tell(other, 40, 0, one)
        self.tell(third, 10, 0, one)
        self.assertEqual(one.stale(50), 40)
        self.tell(third, 45, 0, one)
        self.assertEqual(one.stale(50), 10)
        self.tell(other, 50, 0, one)
        self.assertEqual(one.stale(50), 5)

    def test_letters_heard_late_count_no_less(self):
        one, other = self.pair()
        elder, later = other.letter(5, 0), other.letter(20, 0)
        one.hear(later)
        one.hear(elder)
        self.assertEqual(one.stale(20), 0)

    def test_a_letter_told_at_a_later_moment_than_is_handed_in(self):
        one, other = self.pair()
        self.tell(other, 100, 0, one)
        self.assertEqual(one.stale(30), -70)
        self.assertEqual(one.look(30, 0, within=0), 0)

    def test_every_put_of_a_moment_ahead_is_applied(self):
        one, other = self.pair()
        other.put(9, 0, 1)
        other.put(10, 0, 1)
        letter = other.letter(10, 0)
        other.put(10, 0, 1)
        one.hear(letter)
        # The third put may be of the moment 10 itself: not ahead of 25 less 15.
        self.assertEqual((one.stale(25), one.applied()), (15, (0, 2)))

    def test_within_its_bounds(self):
        one, other = self.pair()
        for wrong in NO_WITHINS:
            self.refuse(BadCount, one.look, 0, 0, within=wrong)
        self.tell(other, 0, 0, one)
        for wrong in NO_WITHINS:
            self.refuse(BadCount, one.look, 0, 0, within=wrong)
        self.assertEqual(one.look(0, 0, within=0), 0)
        self.assertEqual(one.look(999, 0, within=999), 0)
        self.assertEqual(self.refuse(Stale, one.look, 1000, 0, within=999).by, 1000)

    def test_refused_with_none_where_it_does_not_know(self):
        one, other, third = [Site(number, 3, RULES) for number in range(3)]
        for within in (0, 1, 999):
            self.assertIsNone(self.refuse(Stale, one.look, 0, 0, within=within).by)
        self.tell(other, 0, 0, one)
        self.assertIsNone(self.refuse(Stale, one.look, 0, 0, within=999).by)
        self.assertEqual(one.look(0, 0), 0)

    def test_ahead_of_the_bound_and_behind_it(self):
        one, other = self.pair()
        self.tell(other, 100, 0, one)
        for now in (100, 101, 150, 700):
            for within in (0, 1, 49, 50, 51, 599, 600, 601, 999):
                by = one.stale(now)
                if by <= within:
                    self.assertEqual(one.look(now, 0, within=within), 0)
                else:
                    self.assertEqual(self.refuse(Stale, one.look, now, 0, within=within).by, by)

    def test_a_token_goes_beside_it(self):
        one, other = self.pair()
        token = other.put(7, 0, 3)
        self.tell(other, 7, 0, one)
        self.assertEqual(one.look(9, 0, within=2, token=token), 3)
        self.assertEqual(self.refuse(Stale, one.look, 9, 0, token=token, within=1).by, 2)
        self.assertEqual(self.refuse(NotYet, one.look, 9, 0, token=(0, 2), within=1).lacks, [(1, 2)])

    def test_puts_are_not_asked_how_stale_a_site_is(self):
        self.assertEqual(Site(0, 2, RULES).put(10 ** 6, 0, 1), (1, 0))


class Changed(Case):
    """Point 1: what is told may be changed by whoever got it, and what was handed in may be, too."""

    def test_lists_that_were_told(self):
        one, other = self.pair()
        one.put(0, 3, 30)
        other.put(0, 3, 20)
        self.tell(other, 0, 0, one)
        log, told = one.log(), one.look(0, 3)
        one.log().clear()
        one.log().reverse()
        one.look(0, 3).append(5)
        one.waiting().append((1, 9))
        self.assertEqual((one.log(), one.look(0, 3), one.waiting()), (log, told, []))
        one.put(0, 3, 40)
        self.assertEqual(len(log), 2)

    def test_what_was_told_stays_as_it_was(self):
        one, other = self.pair()
        one.put(0, 0, 30)
        applied, log, letter = one.applied(), one.log(), one.letter(0, 1)
        one.put(0, 0, 31)
        self.assertEqual((applied, log), ((1, 0), [(0, 1, (0, 0), 1, 0, 30)]))
        other.hear(letter)
        self.assertEqual(other.log(), log)

    def test_what_was_refused_is_not_changed(self):
        one = Site(0, 2, RULES)
        token = [0, 0]
        self.refuse(BadToken, one.put, 0, 0, 1, token=token)
        rules = ["sum"]
        self.refuse(BadRules, Site, 0, 2, rules)
        self.assertEqual((token, rules), ([0, 0], ["sum"]))


if __name__ == "__main__":
    unittest.main()
