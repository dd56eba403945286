"""Whole lives of sites for the tests, beside notes of what the document says must be so behind each step."""

import random

from causalports.rules import plainly
from causalports.sites import Site

WORDS = ("sum", "most", "last", "all")


def joined_counts(tokens, many):
    """Join tokens, without the program."""
    return tuple(max((token[at] for token in tokens), default=0) for at in range(many))


class Life:
    """Sites that put, tell letters and hear them; what was done is noted here, apart from the program."""

    def __init__(self, many, rules, test):
        self.many = many
        self.rules = rules
        self.test = test
        self.sites = [Site(number, many, rules) for number in range(many)]
        self.now = [0] * many
        self.has = [(0,) * many for _ in range(many)]
        self.logs = [[] for _ in range(many)]
        self.made = {}
        self.moments = {}
        self.behind = {}
        self.letters = []
        self.heard = [[[] for _ in range(many)] for _ in range(many)]

    def at(self, site, now):
        """Tell a moment that may be handed in there, and note it."""
        self.now[site] = max(self.now[site], now)
        return self.now[site]

    def put(self, site, now, key, worth, token=None):
        """Put at a site, and test the put that was made of it."""
        past = self.has[site]
        turn = 1 + max((put[3] for put in self.logs[site]), default=0)
        put = (site, past[site] + 1, past, turn, key, worth)
        now = self.at(site, now)
        told = self.sites[site].put(now, key, worth, token=token)
        self.note(site, put)
        self.made[put[:2]] = put
        self.moments[put[:2]] = now
        self.behind[put[:2]] = {other[:2] for other in self.logs[site][:-1]}
        self.test.assertEqual(told, self.has[site])
        return put

    def note(self, site, put):
        self.logs[site].append(put)
        self.has[site] = tuple(sum(1 for other in self.logs[site] if other[0] == at) for at in range(self.many))

    def tell(self, site, now, to):
        """Tell a letter, and note what stood there when it was told."""
        now = self.at(site, now)
        letter = self.sites[site].letter(now, to)
        self.test.assertIsInstance(letter, tuple)
        self.test.assertEqual(self.sites[site].letter(now, to), letter)
        self.letters.append((letter, site, to, now, self.has[site], list(self.logs[site])))
        return len(self.letters) - 1

    def hear(self, at, site=None):
        """Hear a letter at the site that it is for, or at another one."""
        letter, teller, to, now, token, log = self.letters[at]
        site = to if site is None else site
        self.test.assertIsNone(self.sites[site].hear(letter))
        self.heard[site][teller].append((now, token))
        for put in log:
            if put not in self.logs[site]:
                self.note(site, put)

    def kept(self, site):
        """Tell what kept is to tell, put by put."""
        known = [joined_counts([token for _, token in self.heard[site][other]], self.many)
                 for other in range(self.many) if other != site]
        return sum(1 for put in self.logs[site] if any(token[put[0]] < put[1] for token in known))

    def stale(self, site, now):
        """Tell what stale tells at the most, None where it knows nothing."""
        latest = [max((moment for moment, _ in self.heard[site][other]), default=None)
                  for other in range(self.many) if other != site]
        return None if None in latest else now - min(latest)

    def check(self, site):
        """Test all that a site tells."""
        test, port = self.test, self.sites[site]
        test.assertEqual(port.applied(), self.has[site])
        log = port.log()
        test.assertEqual(log, self.logs[site])
        places = [put[:2] for put in log]
        stands_for = {(at, number) for at in range(self.many) for number in range(1, self.has[site][at] + 1)}
        test.assertEqual(len(places), len(set(places)))
        test.assertEqual(set(places), stands_for)
        for row, put in enumerate(log):
            test.assertEqual(put, self.made[put[:2]])
            test.assertLessEqual(self.behind[put[:2]], set(places[:row]))
        test.assertEqual(port.waiting(), [])
        test.assertEqual(port.kept(), self.kept(site))
        self.check_stale(site)
        for key in range(len(self.rules)):
            test.assertEqual(port.look(self.now[site], key), plainly(log, self.rules, key))

    def check_stale(self, site):
        now = self.now[site]
        by = self.sites[site].stale(now)
        self.test.assertEqual(by, self.stale(site, now))
        if by is not None:
            for place, moment in self.moments.items():
                if moment < now - by:
                    self.test.assertLessEqual(place[1], self.has[site][place[0]])

    def check_all(self):
        for site in range(self.many):
            self.check(site)

    def all_to_all(self, now):
        """Tell letters of all to all, and hear these."""
        told = [self.tell(site, now, to) for site in range(self.many) for to in range(self.many) if to != site]
        for at in told:
            self.hear(at)


def random_life(seed, test, steps=40, many=None, checked=True):
    """Live some steps: puts anywhere, letters heard late, twice, in any turn, elsewhere, or never."""
    chance = random.Random(seed)
    many = many or 2 + seed % 4
    rules = tuple(chance.choice(WORDS) for _ in range(chance.randint(1, 6)))
    life = Life(many, rules, test)
    clock = 0
    for _ in range(steps):
        clock += chance.choice((0, 0, 1, 3))
        site = chance.randrange(many)
        step = chance.random()
        if step < 0.4:
            life.put(site, clock, chance.randrange(len(rules)), chance.choice((-999, -5, 0, 3, 3, 999)))
        elif step < 0.65 or not life.letters:
            life.tell(site, clock, chance.choice([to for to in range(many) if to != site]))
        else:
            at = chance.randrange(len(life.letters))
            heard_by = chance.choice([None, None, None, site])
            site = life.letters[at][2] if heard_by is None or heard_by == life.letters[at][1] else heard_by
            life.hear(at, site)
        if checked:
            life.check(site)
    return life
