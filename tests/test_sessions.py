"""Points 9 and 10: sessions, their wants and tokens, and what they are sure of wherever they go."""

import random
import unittest
from itertools import combinations, permutations

from causalports.errors import BadCount, BadKey, BadNow, BadSite, BadToken, BadWants, BadWorth, NotYet, Stale
from causalports.sessions import ALL_WANTS, Session
from causalports.sites import Site
from cases import RULES, Case
from lives import Life, joined_counts

SOME_WANTS = [some for few in range(5) for some in combinations(ALL_WANTS, few)]

NO_MANY = (None, True, False, "", "2", (), (2,), [], [2], -1, 0, 1, 6, 7, 999)
NO_WANTS = (
    None, True, False, 0, 1, "", "own", [], ["own"], list(ALL_WANTS),
    ("own", "own"), ALL_WANTS + ("own",), ("rising", "own", "rising"), ("Own",), ("",), ("own ",), ("own rising",),
    ("all",), ("own", "sum"), (None,), (True,), (0,), (("own",),), (["own"],), ("own", None), ("own", ["own"]),
)
NO_TOKENS = (
    False, True, 0, "", "0 0", [], [0, 0], (), (0,), (0, 0, 0), (0,) * 6, (-1, 0), (0, -1), (1000, 0), (0, 1000),
    (True, 0), (0, False), (None, 0), ("0", 0), ([0], 0), (0, (0,)),
)


class Making(Case):
    def test_the_words(self):
        self.assertEqual(ALL_WANTS, ("own", "rising", "after", "turn"))

    def test_two_tokens_of_nothing_at_first(self):
        for many in range(2, 6):
            self.assertEqual(Session(many).tokens(), ((0,) * many, (0,) * many))
            self.assertIsInstance(Session(many).tokens(), tuple)

    def test_what_is_not_how_many_sites_there_may_be(self):
        for wrong in NO_MANY:
            self.refuse(BadSite, Session, wrong)
            self.refuse(BadSite, Session, wrong, wants=("none",))

    def test_what_is_no_wants(self):
        for at, wrong in enumerate(NO_WANTS):
            with self.subTest(at=at):
                self.refuse(BadWants, Session, 2, wants=wrong)

    def test_any_of_the_words_in_any_turn(self):
        for some in SOME_WANTS:
            for wants in permutations(some):
                self.assertEqual(Session(2, wants=wants).tokens(), ((0, 0), (0, 0)))

    def test_wants_are_handed_in_by_name(self):
        with self.assertRaises(TypeError):
            Session(2, ALL_WANTS)


class Tokens(Case):
    def test_of_what_it_put(self):
        one, other = self.pair()
        one.put(0, 0, 1)
        session = Session(2)
        self.assertEqual(session.put(one, 0, 0, 5), (2, 0))
        self.assertEqual(session.tokens(), ((2, 0), (0, 0)))
        self.assertEqual(session.put(one, 0, 0, 6), (3, 0))
        self.tell(one, 0, 1, other)
        # What others put there is not what it put.
        other.put(0, 0, 7)
        self.assertEqual(session.put(other, 0, 0, 8), (3, 2))
        one.put(0, 0, 9)
        self.assertEqual(session.tokens(), ((3, 2), (0, 0)))

    def test_of_what_it_saw(self):
        one, other = self.pair()
        session = Session(2, wants=())
        for _ in range(3):
            one.put(0, 0, 1)
        other.put(0, 0, 4)
        self.assertEqual(session.look(one, 0, 0), 3)
        self.assertEqual(session.tokens(), ((0, 0), (3, 0)))
        self.assertEqual(session.look(other, 0, 0), 4)
        self.assertEqual(session.tokens(), ((0, 0), (3, 1)))
        one.put(0, 0, 1)
        self.assertEqual(session.tokens(), ((0, 0), (3, 1)))

    def test_all_that_was_applied_counts_not_just_the_key(self):
        one, other = self.pair()
        one.put(0, 0, 1)
        one.put(0, 1, 1)
        session = Session(2)
        session.look(one, 0, 3)
        self.assertEqual(session.tokens(), ((0, 0), (2, 0)))

    def test_what_it_put_is_not_what_it_saw(self):
        one, other = self.pair()
        session = Session(2)
        session.put(one, 0, 0, 1)
        self.assertEqual(session.tokens(), ((1, 0), (0, 0)))

    def test_sessions_of_the_same_sites_have_their_own(self):
        one, other = self.pair()
        session, second = Session(2), Session(2)
        session.put(one, 0, 0, 1)
        second.look(one, 0, 0)
        self.assertEqual(session.tokens(), ((1, 0), (0, 0)))
        self.assertEqual(second.tokens(), ((0, 0), (1, 0)))

    def test_sites_of_two_to_five(self):
        for many in range(2, 6):
            sites = [Site(number, many, RULES) for number in range(many)]
            session = Session(many, wants=())
            for number, port in enumerate(sites):
                for _ in range(number + 1):
                    port.put(0, 0, 1)
                told = session.put(port, 0, 0, 1)
                self.assertEqual(told, tuple(at + 2 if at <= number else 0 for at in range(many)))


class Wants(Case):
    """What each of the wants is refused for, and what the others are not."""

    def test_own_sees_what_it_put(self):
        for wants in SOME_WANTS:
            one, other = self.pair()
            session = Session(2, wants=wants)
            session.put(one, 0, 0, 5)
            if "own" in wants:
                self.assertEqual(self.refuse(NotYet, session.look, other, 0, 0).lacks, [(0, 1)])
                self.assertEqual(session.tokens(), ((1, 0), (0, 0)))
                self.tell(one, 0, 1, other)
                self.assertEqual(session.look(other, 0, 0), 5)
            else:
                self.assertEqual(session.look(other, 0, 0), 0)

    def test_rising_sees_nothing_elder_than_it_saw(self):
        for wants in SOME_WANTS:
            one, other = self.pair()
            session = Session(2, wants=wants)
            one.put(0, 0, 5)
            session.look(one, 0, 0)
            if "rising" in wants:
                self.assertEqual(self.refuse(NotYet, session.look, other, 0, 0).lacks, [(0, 1)])
                self.assertEqual(session.tokens(), ((0, 0), (1, 0)))
                self.tell(one, 0, 1, other)
                self.assertEqual(session.look(other, 0, 0), 5)
            else:
                self.assertEqual(session.look(other, 0, 0), 0)

    def test_after_puts_behind_what_it_saw(self):
        for wants in SOME_WANTS:
            one, other = self.pair()
            session = Session(2, wants=wants)
            one.put(0, 0, 5)
            session.look(one, 0, 0)
            if "after" in wants:
                self.assertEqual(self.refuse(NotYet, session.put, other, 0, 0, 6).lacks, [(0, 1)])
                self.assertEqual((session.tokens(), other.log()), (((0, 0), (1, 0)), []))
                self.tell(one, 0, 1, other)
                session.put(other, 0, 0, 6)
                self.assertEqual(other.log()[-1][2], (1, 0))
            else:
                self.assertEqual(session.put(other, 0, 0, 6), (0, 1))
                self.assertEqual(other.log()[-1][2], (0, 0))

    def test_turn_puts_behind_what_it_put(self):
        for wants in SOME_WANTS:
            one, other = self.pair()
            session = Session(2, wants=wants)
            session.put(one, 0, 0, 5)
            if "turn" in wants:
                self.assertEqual(self.refuse(NotYet, session.put, other, 0, 0, 6).lacks, [(0, 1)])
                self.assertEqual((session.tokens(), other.log()), (((1, 0), (0, 0)), []))
                self.tell(one, 0, 1, other)
                self.assertEqual(session.put(other, 0, 0, 6), (1, 1))
                self.assertEqual(other.log()[-1][2], (1, 0))
            else:
                self.assertEqual(session.put(other, 0, 0, 6), (1, 1))

    def test_all_are_wanted_if_none_are_told(self):
        one, other = self.pair()
        session = Session(2)
        session.put(one, 0, 0, 5)
        self.refuse(NotYet, session.put, other, 0, 0, 6)
        self.refuse(NotYet, session.look, other, 0, 0)
        session = Session(2)
        session.look(one, 0, 0)
        self.refuse(NotYet, session.put, other, 0, 0, 6)
        self.refuse(NotYet, session.look, other, 0, 0)

    def test_puts_of_others_that_its_own_came_behind_come_with_it(self):
        one, other = self.pair()
        one.put(0, 0, 1)
        session = Session(2, wants=("own",))
        session.put(one, 0, 0, 5)
        self.assertEqual(self.refuse(NotYet, session.look, other, 0, 0).lacks, [(0, 1)])
        self.tell(one, 0, 1, other)
        self.assertEqual(session.look(other, 0, 0), 6)


class Refused(Case):
    """What the site refuses is refused, and changes no token."""

    def test_each_refusal_of_a_site(self):
        for wants in SOME_WANTS:
            one, other = self.pair()
            session = Session(2, wants=wants)
            session.put(one, 9, 0, 5)
            session.look(one, 9, 0)
            other.put(9, 0, 1)
            before = (session.tokens(), one.log(), other.log())
            for error, asked in (
                (BadNow, lambda: session.look(one, 8, 0)),
                (BadNow, lambda: session.put(one, 8, 0, 1)),
                (BadNow, lambda: session.put(other, 10 ** 6 + 1, 4, 1000)),
                (BadKey, lambda: session.look(one, 9, 4)),
                (BadKey, lambda: session.put(one, 9, -1, 1000)),
                (BadWorth, lambda: session.put(one, 9, 0, -1000)),
                (BadWorth, lambda: session.put(other, 9, 0, True)),
                (BadCount, lambda: session.look(one, 9, 0, within=1000)),
                (BadCount, lambda: session.look(one, 9, 0, within=False)),
                (Stale, lambda: session.look(one, 9, 0, within=999)),
                (BadToken, lambda: session.look(Site(0, 3, RULES), 9, 0)),
                (BadToken, lambda: session.put(Site(2, 3, RULES), 9, 0, 1)),
            ):
                self.refuse(error, asked)
                self.assertEqual((session.tokens(), one.log(), other.log()), before)

    def test_a_site_that_made_999_puts(self):
        one, other = self.pair()
        session = Session(2)
        for made in range(1, 1000):
            self.assertEqual(session.put(one, 0, 0, 1), (made, 0))
        self.refuse(BadCount, session.put, one, 0, 0, 1)
        self.assertEqual(session.tokens(), ((999, 0), (0, 0)))

    def test_how_stale_a_site_may_be(self):
        one, other = self.pair()
        session = Session(2)
        self.assertIsNone(self.refuse(Stale, session.look, one, 9, 0, within=999).by)
        self.tell(other, 4, 0, one)
        one.put(9, 0, 1)
        self.assertEqual(self.refuse(Stale, session.look, one, 9, 0, within=4).by, 5)
        self.assertEqual(session.tokens(), ((0, 0), (0, 0)))
        self.assertEqual(session.look(one, 9, 0, within=5), 1)
        self.assertEqual(session.tokens(), ((0, 0), (1, 0)))

    def test_not_yet_goes_ahead_of_how_stale(self):
        one, other = self.pair()
        session = Session(2)
        session.put(one, 0, 0, 1)
        self.assertEqual(self.refuse(NotYet, session.look, other, 0, 0, within=1000).lacks, [(0, 1)])


class Taking(Case):
    def test_tokens_are_joined(self):
        session = Session(2)
        self.assertIsNone(session.take(mine=(3, 1)))
        self.assertEqual(session.tokens(), ((3, 1), (0, 0)))
        self.assertIsNone(session.take(seen=(2, 2)))
        self.assertEqual(session.tokens(), ((3, 1), (2, 2)))
        session.take(seen=(0, 5), mine=(4, 0))
        self.assertEqual(session.tokens(), ((4, 1), (2, 5)))
        self.assertIsNone(session.take())
        session.take(mine=None, seen=None)
        self.assertEqual(session.tokens(), ((4, 1), (2, 5)))
        session.take(mine=(999, 999), seen=(0, 0))
        self.assertEqual(session.tokens(), ((999, 999), (2, 5)))

    def test_a_session_goes_on_where_another_one_stood(self):
        one, other = self.pair()
        first, second = Session(2), Session(2)
        first.put(one, 0, 0, 5)
        first.look(one, 0, 0)
        mine, seen = first.tokens()
        second.take(mine=mine)
        self.refuse(NotYet, second.look, other, 0, 0)
        self.refuse(NotYet, second.put, other, 0, 0, 1)
        third = Session(2, wants=("rising",))
        third.take(mine=mine)
        self.assertEqual(third.look(other, 0, 0), 0)
        third.take(seen=seen)
        self.refuse(NotYet, third.look, other, 0, 0)
        self.tell(one, 0, 1, other)
        self.assertEqual((second.look(other, 0, 0), third.look(other, 0, 0)), (5, 5))
        self.assertEqual(second.put(other, 0, 0, 1), (1, 1))
        self.assertEqual(first.tokens(), ((1, 0), (1, 0)))

    def test_what_is_no_token(self):
        session = Session(2)
        session.take(mine=(1, 2), seen=(3, 4))
        for at, wrong in enumerate(NO_TOKENS):
            with self.subTest(at=at):
                self.refuse(BadToken, session.take, mine=wrong)
                self.refuse(BadToken, session.take, seen=wrong)
                self.refuse(BadToken, session.take, mine=(9, 9), seen=wrong)
                self.refuse(BadToken, session.take, mine=wrong, seen=(9, 9))
                self.refuse(BadToken, session.take, seen=wrong, mine=wrong)
                self.assertEqual(session.tokens(), ((1, 2), (3, 4)))

    def test_tokens_of_another_number_of_sites(self):
        for many, other in permutations(range(2, 6), 2):
            self.refuse(BadToken, Session(many).take, mine=(0,) * other)
            self.refuse(BadToken, Session(many).take, seen=(0,) * other)


class Walk:
    """A session that goes from site to site, with notes of its own beside it."""

    def __init__(self, life, wants, test):
        self.life, self.wants, self.test = life, wants, test
        self.session = Session(life.many, wants=wants)
        self.mine = self.seen = (0,) * life.many
        self.put_places = set()
        self.seen_places = set()

    def token(self, mine_by, seen_by):
        parts = [self.mine] * (mine_by in self.wants) + [self.seen] * (seen_by in self.wants)
        return joined_counts(parts, self.life.many)

    def lacks(self, site, token):
        return [(at, has + 1) for at, has in enumerate(self.life.has[site]) if token[at] > has]

    def look(self, site):
        life, port = self.life, self.life.sites[site]
        now = life.at(site, max(life.now))
        lacks = self.lacks(site, self.token("own", "rising"))
        places = {put[:2] for put in life.logs[site]}
        if lacks:
            with self.test.assertRaises(NotYet) as caught:
                self.session.look(port, now, 0)
            self.test.assertEqual(caught.exception.lacks, lacks)
        else:
            self.test.assertEqual(self.session.look(port, now, 0), port.look(now, 0))
            if "own" in self.wants:
                self.test.assertLessEqual(self.put_places, places)
            if "rising" in self.wants:
                self.test.assertLessEqual(self.seen_places, places)
            self.seen_places |= places
            self.seen = joined_counts([self.seen, life.has[site]], life.many)
        self.test.assertEqual(self.session.tokens(), (self.mine, self.seen))

    def put(self, site, worth):
        life, port = self.life, self.life.sites[site]
        now = life.at(site, max(life.now))
        lacks = self.lacks(site, self.token("turn", "after"))
        if lacks:
            with self.test.assertRaises(NotYet) as caught:
                self.session.put(port, now, 0, worth)
            self.test.assertEqual(caught.exception.lacks, lacks)
        else:
            behind = {put[:2] for put in life.logs[site]}
            told = self.session.put(port, now, 0, worth)
            put = port.log()[-1]
            self.test.assertEqual(put[:1] + put[2:3] + put[4:], (site, life.has[site], 0, worth))
            life.note(site, put)
            life.made[put[:2]], life.moments[put[:2]], life.behind[put[:2]] = put, now, behind
            if "turn" in self.wants:
                self.test.assertLessEqual(self.put_places, behind)
            if "after" in self.wants:
                self.test.assertLessEqual(self.seen_places, behind)
            self.put_places.add(put[:2])
            self.mine = tuple(put[1] if at == site else count for at, count in enumerate(self.mine))
            self.test.assertEqual(told, self.mine)
        self.test.assertEqual(self.session.tokens(), (self.mine, self.seen))
        life.check(site)

    def take(self, other):
        mine, seen = other.session.tokens()
        self.session.take(mine=mine, seen=seen)
        self.mine = joined_counts([self.mine, mine], self.life.many)
        self.seen = joined_counts([self.seen, seen], self.life.many)
        self.put_places |= other.put_places
        self.seen_places |= other.seen_places
        self.test.assertEqual(self.session.tokens(), (self.mine, self.seen))


class Walks(Case):
    def walk(self, seed, wants):
        chance = random.Random(seed)
        life = Life(2 + seed % 4, ("sum", "all"), self)
        walks = [Walk(life, wants, self), Walk(life, chance.choice(SOME_WANTS), self)]
        for clock in range(50):
            site = chance.randrange(life.many)
            to = chance.choice([to for to in range(life.many) if to != site])
            step = chance.random()
            if step < 0.25:
                chance.choice(walks).look(site)
            elif step < 0.5:
                chance.choice(walks).put(site, chance.randint(-9, 9))
            elif step < 0.55:
                life.put(site, clock, 1, clock)
            elif step < 0.58:
                walks[0].take(walks[1])
            elif step < 0.8 or not life.letters:
                life.tell(site, clock, to)
            else:
                life.hear(chance.randrange(len(life.letters)))
        life.check_all()

    def test_each_of_the_wants_amid_letters(self):
        for seed in range(12):
            for wants in SOME_WANTS:
                with self.subTest(seed=seed, wants=wants):
                    self.walk(seed, wants)


class Changed(Case):
    def test_what_was_told_stays_as_it_was(self):
        one = Site(0, 2, RULES)
        session = Session(2)
        tokens = session.tokens()
        session.put(one, 0, 3, 5)
        session.look(one, 0, 3).append(6)
        self.assertEqual(tokens, ((0, 0), (0, 0)))
        self.assertEqual(session.look(one, 0, 3), [5])
        self.assertEqual(session.tokens(), session.tokens())


if __name__ == "__main__":
    unittest.main()
