"""Point 11: logs, judged and ordered."""

import random
import unittest
from copy import deepcopy

from causalports.errors import BadLogs, BadRules, BadSite
from causalports.judging import judged, ordered
from causalports.sites import Site
from cases import RULES, Case
from lives import random_life

NO_MANY = (None, True, False, "", "2", (), (2,), [], -1, 0, 1, 6, 7)
NO_RULES = (None, True, 0, "sum", [], ["sum"], (), ("sum",) * 7, ("least",), (None,), ("sum", ["all"]))
NO_LOGS = (None, True, False, 0, 2, "", "put", (), [], [None], [False], [5], [""], ["put"])

# Two puts made apart, then one of site 1 behind both, all known to both sites.
LEFT = (0, 1, (0, 0), 1, 0, 30)
RIGHT = (1, 1, (0, 0), 1, 3, -20)
BEHIND = (1, 2, (1, 1), 2, 0, 7)
LOGS = [[LEFT, RIGHT, BEHIND], [RIGHT, LEFT, BEHIND]]


def can_be(put, site, row, logs):
    """Tell by the document's words whether a put can stand in a row."""
    ahead = logs[site][:row]
    maker, number, past, turn = put[:4]
    applied = tuple(sum(1 for other in ahead if other[0] == at) for at in range(len(logs)))
    next_one = number == 1 + max((other[1] for other in ahead if other[0] == maker), default=0)
    behind = all((at, earlier) in {other[:2] for other in ahead}
                 for at, count in enumerate(past) for earlier in range(1, count + 1))
    if not next_one or not behind or past[maker] != number - 1:
        return False
    if maker == site and (past != applied or turn != 1 + max((other[3] for other in ahead), default=0)):
        return False
    return put in logs[maker]


def judged_by_words(logs):
    for site, log in enumerate(logs):
        for row, put in enumerate(log):
            if not can_be(put, site, row, logs):
                return site, row
    return None


class LogsCase(Case):
    def refuse_both(self, error, many, rules, logs):
        self.refuse(error, judged, many, rules, logs)
        return self.refuse(error, ordered, many, rules, logs)

    def refuse_at(self, place, many, rules, logs):
        error = self.refuse_both(BadLogs, many, rules, logs)
        self.assertEqual((error.site, error.row), place)

    def check(self, told, logs, many=2, rules=RULES):
        self.assertEqual(judged(many, rules, logs), told)
        if told is not None:
            self.assertIsNone(ordered(many, rules, logs))


class Judged(LogsCase):
    def test_logs_that_can_be(self):
        self.check(None, LOGS)
        self.check(None, [[LEFT], [RIGHT, LEFT, BEHIND]])
        self.check(None, [[LEFT, RIGHT], [RIGHT, LEFT, BEHIND]])
        self.check(None, [[LEFT], [RIGHT]])
        for many in range(2, 6):
            self.check(None, [[] for _ in range(many)], many)
            self.check(None, [[(0, 1, (0,) * many, 1, 0, 5)]] + [[] for _ in range(many - 1)], many)

    def test_a_put_that_is_not_the_next_one_of_its_site(self):
        self.check((0, 2), [[LEFT, RIGHT, LEFT], [RIGHT, LEFT, BEHIND]])
        self.check((0, 1), [[LEFT, BEHIND], [RIGHT, LEFT, BEHIND]])
        self.check((1, 3), [[LEFT, RIGHT, BEHIND], [RIGHT, LEFT, BEHIND, RIGHT]])
        self.check((0, 0), [[(0, 2, (0, 0), 1, 0, 1)], []])
        self.check((0, 0), [[(0, 2, (1, 0), 1, 0, 1)], []])

    def test_a_past_that_is_not_applied_ahead(self):
        self.check((0, 1), [[RIGHT, BEHIND, LEFT], [RIGHT, LEFT, BEHIND]])
        self.check((1, 1), [[LEFT], [RIGHT, BEHIND, LEFT]])
        self.check((0, 0), [[(0, 1, (0, 1), 2, 0, 1)], []])

    def test_a_past_that_tells_another_number_of_its_own_site(self):
        wrong = (1, 2, (1, 0), 2, 0, 7)
        self.check((0, 2), [[LEFT, RIGHT, wrong], [RIGHT, LEFT, wrong]])
        self.check((1, 2), [[LEFT], [RIGHT, LEFT, wrong]])
        self.check((0, 0), [[(0, 1, (1, 0), 1, 0, 1)], []])

    def test_another_past_than_what_is_applied_ahead_in_its_own_log(self):
        # Its past leaves out a put of site 0 that was applied ahead.
        wrong = (1, 2, (0, 1), 2, 0, 7)
        self.check((1, 2), [[LEFT, RIGHT, wrong], [RIGHT, LEFT, wrong]])
        self.check(None, [[LEFT, RIGHT, wrong], [RIGHT, wrong, LEFT]])

    def test_another_turn_than_due_in_its_own_log(self):
        for turn in (1, 3, 1998):
            wrong = (1, 2, (1, 1), turn, 0, 7)
            self.check((1, 2), [[LEFT, RIGHT, wrong], [RIGHT, LEFT, wrong]])
        self.check((0, 0), [[(0, 1, (0, 0), 2, 0, 1)], []])

    def test_a_turn_is_due_by_the_greatest_one_ahead_not_by_the_last(self):
        puts = [(0, at, (at - 1, 0), at, 0, 1) for at in (1, 2, 3)]
        apart = (1, 1, (0, 0), 1, 0, 1)
        due = (0, 4, (3, 1), 4, 0, 1)
        self.check(None, [puts + [apart, due], [apart]])
        self.check((0, 4), [puts + [apart, (0, 4, (3, 1), 2, 0, 1)], [apart]])
        self.check((0, 4), [puts + [apart, (0, 4, (3, 1), 5, 0, 1)], [apart]])

    def test_one_that_is_not_in_its_own_sites_log_just_so(self):
        self.check((0, 1), [[LEFT, RIGHT], []])
        for part, other in ((3, 2), (4, 0), (5, 20)):
            wrong = RIGHT[:part] + (other,) + RIGHT[part + 1:]
            self.check((0, 1), [[LEFT, wrong], [RIGHT]])
            self.check((1, 1), [[LEFT], [RIGHT, wrong, LEFT]])
        # A put of site 1 that stands in the logs of all the others is in none of its own.
        self.check((0, 0), [[(1, 1, (0, 0, 0), 1, 0, 1)], [], [(1, 1, (0, 0, 0), 1, 0, 1)]], 3)

    def test_the_first_of_several_by_site_then_by_row(self):
        wrong = (1, 2, (1, 1), 9, 0, 7)
        # In the log of site 0 it can be, for it is in its own site's log just so.
        self.check((1, 2), [[LEFT, RIGHT, wrong], [RIGHT, LEFT, wrong]])
        self.check((0, 1), [[LEFT, LEFT, LEFT], [RIGHT, RIGHT]])
        self.check((1, 1), [[LEFT], [RIGHT, RIGHT, RIGHT]])


class Ordered(LogsCase):
    def test_by_turns_then_by_sites(self):
        self.assertEqual(ordered(2, RULES, LOGS), [LEFT, RIGHT, BEHIND])
        self.assertEqual(ordered(2, RULES, [[LEFT], [RIGHT, LEFT, BEHIND]]), [LEFT, RIGHT, BEHIND])
        self.assertEqual(ordered(2, RULES, [[RIGHT, LEFT_BEHIND], [RIGHT]]), [RIGHT, LEFT_BEHIND])
        self.assertEqual(ordered(2, RULES, [[], []]), [])

    def test_turns_of_more_than_one_figure(self):
        puts = [(0, at, (at - 1, 0), at, 0, 1) for at in range(1, 13)]
        second = [(1, at, (0, at - 1), at, 0, 1) for at in range(1, 12)]
        told = ordered(2, RULES, [puts, second])
        self.assertEqual(told, sorted(puts + second, key=lambda put: (put[3], put[0])))
        self.assertEqual(told[:2] + told[-2:], [puts[0], second[0], second[10], puts[11]])

    def test_none_of_logs_that_cannot_be(self):
        self.assertIsNone(ordered(2, RULES, [[LEFT, RIGHT], []]))
        self.assertIsNone(ordered(2, RULES, [[LEFT, LEFT], []]))

    def test_of_whole_lives(self):
        for seed in range(80):
            life = random_life(seed, self, steps=60, checked=False)
            logs = [port.log() for port in life.sites]
            told = ordered(life.many, life.rules, logs)
            self.assertEqual(sorted(told), sorted(life.made.values()))
            for at, put in enumerate(told):
                self.assertLessEqual(life.behind[put[:2]], {other[:2] for other in told[:at]})
                if at:
                    self.assertLess((told[at - 1][3], told[at - 1][0]), (put[3], put[0]))
            life.all_to_all(max(life.now))
            for key, word in enumerate(life.rules):
                if word == "last":
                    worths = [put[5] for put in told if put[4] == key]
                    told_there = life.sites[0].look(max(life.now), key)
                    self.assertEqual(told_there, worths[-1] if worths else None)


LEFT_BEHIND = (0, 1, (0, 1), 2, 0, 30)


class Lives(LogsCase):
    def test_logs_as_sites_tell_them(self):
        for seed in range(100, 180):
            life = random_life(seed, self, steps=60, checked=False)
            self.assertIsNone(judged(life.many, life.rules, [port.log() for port in life.sites]))

    def test_logs_told_otherwise(self):
        told = {True: 0, False: 0}
        for seed in range(1200):
            chance = random.Random(seed)
            life = random_life(seed % 150, self, steps=30, checked=False)
            logs = [port.log() for port in life.sites]
            for _ in range(chance.choice((1, 1, 1, 2))):
                self.spoil(chance, life, logs)
            expected = judged_by_words(logs)
            told[expected is None] += 1
            with self.subTest(seed=seed):
                self.check(expected, logs, life.many, life.rules)
        self.assertGreater(min(told.values()), 30)

    def spoil(self, chance, life, logs):
        """Leave out a row, tell it twice, exchange two, or tell one part of a put otherwise, here or everywhere."""
        log = chance.choice([log for log in logs if log] or [[]])
        if not log:
            return
        row = chance.randrange(len(log))
        step = chance.randrange(5)
        if step == 0:
            del log[row]
        elif step == 1:
            log.insert(chance.randint(0, len(log)), log[row])
        elif step == 2:
            other = chance.randrange(len(log))
            log[row], log[other] = log[other], log[row]
        else:
            put = log[row]
            other = self.otherwise(chance, life, put)
            for some in logs if step == 3 else [log]:
                some[:] = [other if one == put else one for one in some]

    def otherwise(self, chance, life, put):
        parts = list(put)
        at = chance.randrange(6)
        if at == 2:
            past = list(put[2])
            site = chance.randrange(life.many)
            past[site] = max(0, past[site] + chance.choice((-1, 1)))
            parts[2] = tuple(past)
        elif at in (0, 4):
            parts[at] = chance.randrange(life.many if at == 0 else len(life.rules))
        else:
            parts[at] = max(1, put[at] + chance.choice((-1, 1))) if at != 5 else min(999, put[5] + 1)
        return tuple(parts)


class Form(LogsCase):
    def test_too_few_and_too_many(self):
        for many in range(2, 6):
            for few in range(many):
                self.refuse_at((few, -1), many, RULES, [[] for _ in range(few)])
            for more in (1, 2, 5):
                self.refuse_at((many, -1), many, RULES, [[] for _ in range(many + more)])

    def test_the_first_by_its_site(self):
        self.refuse_at((0, 0), 2, RULES, [[None]])
        self.refuse_at((0, 0), 2, RULES, [[None], [], []])
        self.refuse_at((1, 1), 2, RULES, [[LEFT], [RIGHT, None], [None]])
        self.refuse_at((1, -1), 2, RULES, [[LEFT]])
        self.refuse_at((2, -1), 2, RULES, [[LEFT], [RIGHT], [None]])

    def test_what_are_no_logs(self):
        for at, wrong in enumerate(NO_LOGS):
            with self.subTest(at=at):
                self.refuse_at((0, -1), 2, RULES, wrong)

    def test_what_is_no_log(self):
        for wrong in (None, True, 0, "", "put"):
            self.refuse_at((1, -1), 2, RULES, [[LEFT], wrong])
            self.refuse_at((0, 0), 2, RULES, [[list(LEFT)], wrong])

    def test_what_is_no_put(self):
        wrongs = (None, True, 0, "", "put 0 1 0 0 1 0 30", (), [], list(LEFT), LEFT[:5], LEFT + (0,), (LEFT,),
                  (0, 1, 0, 0, 1, 0, 30), ((0, 0), 0, 1, 1, 0, 30))
        for at, wrong in enumerate(wrongs):
            with self.subTest(at=at):
                self.refuse_at((0, 0), 2, RULES, [[wrong], []])
                self.refuse_at((0, 1), 2, RULES, [[LEFT, wrong, wrong], [wrong]])
                self.refuse_at((1, 2), 2, RULES, [[], [RIGHT, LEFT, wrong]])

    def test_each_part_at_its_bounds_and_beyond(self):
        for many in range(2, 6):
            zero = (0,) * many
            for part, least, most in ((0, 0, many - 1), (1, 1, 999), (3, 1, 999 * many), (4, 0, 3), (5, -999, 999)):
                for value in (least, least + 1, most - 1, most):
                    put = (0, 1, zero, 1, 0, 0)
                    put = put[:part] + (value,) + put[part + 1:]
                    judged(many, RULES, [[put]] + [[] for _ in range(many - 1)])
                for value in (least - 1, most + 1, None, True, False, "", "1", (), (1,), [1], 10 ** 5000):
                    put = (0, 1, zero, 1, 0, 0)
                    put = put[:part] + (value,) + put[part + 1:]
                    self.refuse_at((0, 0), many, RULES, [[put]] + [[] for _ in range(many - 1)])

    def test_pasts(self):
        for many in range(2, 6):
            rest = [[] for _ in range(many - 1)]
            for past in ((0,) * many, (999,) * many):
                judged(many, RULES, [[(0, 1, past, 1, 0, 0)]] + rest)
            for past in (None, True, 0, "", "0 0", [0] * many, (), (0,), (0,) * (many - 1), (0,) * (many + 1),
                         (1000,) + (0,) * (many - 1), (0,) * (many - 1) + (-1,), (True,) + (0,) * (many - 1),
                         ((0,),) * many, ("0",) * many, ([],) * many):
                self.refuse_at((0, 0), many, RULES, [[(0, 1, past, 1, 0, 0)]] + rest)

    def test_keys_by_the_rules(self):
        for keys in range(1, 7):
            rules = ("sum",) * keys
            self.check(None, [[(0, 1, (0, 0), 1, keys - 1, 5)], []], rules=rules)
            self.refuse_at((0, 0), 2, rules, [[(0, 1, (0, 0), 1, keys, 5)], []])

    def test_the_form_of_all_goes_ahead_of_what_can_be(self):
        self.refuse_at((1, 0), 2, RULES, [[LEFT, LEFT], [None]])

    def test_what_is_no_number_of_sites_or_no_rules(self):
        for wrong in NO_MANY:
            self.refuse_both(BadSite, wrong, RULES, LOGS)
            self.refuse_both(BadSite, wrong, (), None)
        for wrong in NO_RULES:
            self.refuse_both(BadRules, 2, wrong, LOGS)
            self.refuse_both(BadRules, 2, wrong, [])


class Changed(LogsCase):
    def test_what_is_handed_in_stays_as_it_was(self):
        for logs in (LOGS, [[LEFT, LEFT], []], [[BEHIND, RIGHT, LEFT], [RIGHT, LEFT, BEHIND]]):
            given = deepcopy(logs)
            judged(2, RULES, given)
            ordered(2, RULES, given)
            self.assertEqual(given, logs)

    def test_what_is_handed_in_is_not_kept_and_what_is_told_may_be_changed(self):
        given = deepcopy(LOGS)
        told = ordered(2, RULES, given)
        told.clear()
        self.assertEqual(given, LOGS)
        self.assertEqual(ordered(2, RULES, given), [LEFT, RIGHT, BEHIND])
        given[1].clear()
        self.assertEqual(judged(2, RULES, given), (0, 1))
        self.assertIsNone(judged(2, RULES, LOGS))

    def test_the_log_that_a_site_told(self):
        port = Site(0, 2, RULES)
        port.put(0, 0, 1)
        log = port.log()
        self.assertIsNone(judged(2, RULES, [log, []]))
        log[0] = log[0][:5] + (2,)
        self.assertEqual(port.log(), [(0, 1, (0, 0), 1, 0, 1)])


if __name__ == "__main__":
    unittest.main()
