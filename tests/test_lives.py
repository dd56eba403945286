"""Points 5 to 8 over whole lives of sites."""

import random
import unittest

from causalports.errors import NotYet
from lives import random_life


class Lives(unittest.TestCase):
    def test_what_each_site_tells_behind_each_step(self):
        for seed in range(160):
            with self.subTest(seed=seed):
                random_life(seed, self).check_all()

    def test_a_longer_life_of_each_size(self):
        for many in range(2, 6):
            random_life(1000 + many, self, steps=200, many=many).check_all()

    def test_a_step_at_one_site_changes_nothing_at_another(self):
        for seed in range(200, 220):
            life = random_life(seed, self)
            before = [(port.applied(), port.log(), port.kept()) for port in life.sites[1:]]
            life.put(0, 10 ** 6, 0, 1)
            life.tell(0, 10 ** 6, 1)
            self.assertEqual([(port.applied(), port.log(), port.kept()) for port in life.sites[1:]], before)

    def test_letters_of_all_to_all_twice_over(self):
        for seed in range(300, 340):
            with self.subTest(seed=seed):
                life = random_life(seed, self, checked=False)
                elder = list(range(len(life.letters)))
                clock = max(life.now)
                life.all_to_all(clock + 1)
                life.check_all()
                life.all_to_all(clock + 2)
                life.check_all()
                self.check_the_same_everywhere(life)
                before = [(port.applied(), port.log(), port.stale(clock + 2)) for port in life.sites]
                random.Random(seed).shuffle(elder)
                for at in elder:
                    life.hear(at)
                life.check_all()
                self.check_the_same_everywhere(life)
                self.assertEqual([(port.applied(), port.log(), port.stale(clock + 2)) for port in life.sites], before)

    def check_the_same_everywhere(self, life):
        whole = tuple(sum(1 for place in life.made if place[0] == site) for site in range(life.many))
        for port in life.sites:
            self.assertEqual(port.applied(), whole)
            self.assertEqual(sorted(port.log()), sorted(life.made.values()))
            self.assertEqual((port.waiting(), port.kept()), ([], 0))
        for key in range(len(life.rules)):
            told = [port.look(life.at(site, max(life.now)), key) for site, port in enumerate(life.sites)]
            self.assertEqual(told, told[:1] * life.many)

    def test_one_site_after_the_other_tells_all_and_is_heard_at_once(self):
        for seed in range(400, 420):
            life = random_life(seed, self, checked=False)
            clock = max(life.now)
            for _ in range(2):
                for site in range(life.many):
                    for to in range(life.many):
                        if to != site:
                            life.hear(life.tell(site, clock, to))
            life.check_all()
            self.check_the_same_everywhere(life)

    def test_what_lacks_of_any_token_for_look_and_put(self):
        for seed in range(500, 540):
            life = random_life(seed, self, steps=25, checked=False)
            chance = random.Random(seed)
            for _ in range(40):
                site = chance.randrange(life.many)
                has = life.has[site]
                token = tuple(min(999, max(0, count + chance.choice((-2, -1, 0, 0, 0, 1, 2, 900)))) for count in has)
                lacks = [(at, count + 1) for at, count in enumerate(has) if token[at] > count]
                now = life.at(site, max(life.now))
                port = life.sites[site]
                if not lacks:
                    port.look(now, 0, token=token)
                    life.put(site, now, 0, 1, token=token)
                    continue
                for asked in (lambda: port.look(now, 0, token=token), lambda: port.put(now, 0, 1, token=token)):
                    with self.assertRaises(NotYet) as caught:
                        asked()
                    self.assertEqual(caught.exception.lacks, lacks)
                life.check(site)


if __name__ == "__main__":
    unittest.main()
