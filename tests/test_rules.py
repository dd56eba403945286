"""Points 3 and 4: puts, rules, and what a key holds by some puts."""

import random
import unittest
from itertools import permutations, product

from causalports.errors import BadKey, BadRules, PortError
from causalports.rules import plainly

WORDS = ("sum", "most", "last", "all")

NO_RULES = (
    None, True, False, 0, 1, "", "sum", "most", [], ["sum"], ["sum", "last"],
    (), WORDS + ("sum", "most", "last"), ("sum",) * 7, ("all",) * 99,
    ("Sum",), ("ALL",), ("",), (" sum",), ("sum ",), ("least",), ("sum last",), ("sum", "none"), ("none", "sum"),
    (None,), (True,), (0,), (("sum",),), (["sum"],), ("sum", None), ("sum", 1), ("sum", ["last"]), ("sum",) * 5 + ("x",),
)

NO_KEYS = (None, True, False, "", "0", "sum", (), (0,), [], [0], -1, -2, 4, 5, 6, 999, 10 ** 5000, -10 ** 5000)


class Store:
    """Sites that put and hear of each other, for puts that can be; it notes by itself what each put came behind."""

    def __init__(self, many):
        self.many = many
        self.applied = [[] for _ in range(many)]
        self.puts = []
        self.behind = {}

    def put(self, site, key, worth):
        known = self.applied[site]
        past = tuple(sum(1 for put in known if put[0] == at) for at in range(self.many))
        turn = 1 + max((put[3] for put in known), default=0)
        made = (site, past[site] + 1, past, turn, key, worth)
        self.behind[made[:2]] = {put[:2] for put in known}
        known.append(made)
        self.puts.append(made)
        return made

    def hear(self, site, other):
        for put in self.applied[other]:
            if put not in self.applied[site]:
                self.applied[site].append(put)

    def told(self, word, key, puts):
        """Tell what a key holds by the words of the document, from what was noted here."""
        mine = [put for put in puts if put[4] == key]
        if word == "sum":
            return sum(put[5] for put in mine)
        if word == "all":
            passed = {place for put in mine for place in self.behind[put[:2]]}
            return [put[5] for put in sorted(mine) if put[:2] not in passed]
        found = None
        for put in mine:
            if found is None:
                found = put
            elif word == "most" and put[5] > found[5]:
                found = put
            elif word == "last" and (put[3] > found[3] or put[3] == found[3] and put[0] > found[0]):
                found = put
        return None if found is None else found[5]


def random_store(seed):
    chance = random.Random(seed)
    store = Store(chance.randint(2, 5))
    for _ in range(chance.randint(1, 14)):
        site = chance.randrange(store.many)
        if chance.random() < 0.6:
            store.put(site, chance.randrange(4), chance.choice((-999, -1, 0, 1, 7, 999)))
        else:
            store.hear(site, chance.randrange(store.many))
    return store


# Two puts made apart of key 0 (turns alike), then one of site 1 behind both, and puts of other keys.
LEFT = (0, 1, (0, 0), 1, 0, 30)
RIGHT = (1, 1, (0, 0), 1, 0, 20)
ELSEWHERE = (0, 2, (1, 0), 2, 1, 500)
BEHIND = (1, 2, (2, 1), 3, 0, -7)


class NoPut(unittest.TestCase):
    def test_each_rule(self):
        self.assertEqual(plainly([], ("sum",), 0), 0)
        self.assertIsNone(plainly([], ("most",), 0))
        self.assertIsNone(plainly([], ("last",), 0))
        self.assertEqual(plainly([], ("all",), 0), [])

    def test_puts_of_other_keys_are_none(self):
        puts = [LEFT, RIGHT, BEHIND]
        for word, told in (("sum", 0), ("most", None), ("last", None), ("all", [])):
            with self.subTest(word=word):
                self.assertEqual(plainly(puts, ("sum", word), 1), told)

    def test_a_sum_of_none_is_a_number(self):
        self.assertIs(type(plainly([], ("sum",), 0)), int)


class OnePut(unittest.TestCase):
    def test_each_rule_at_each_worth(self):
        for worth in (-999, -1, 0, 1, 999):
            for many in range(2, 6):
                put = (many - 1, 1, (0,) * many, 1, 2, worth)
                for word in WORDS:
                    with self.subTest(word=word, worth=worth, many=many):
                        told = plainly([put], ("all", "sum", word), 2)
                        self.assertEqual(told, [worth] if word == "all" else worth)


class Sum(unittest.TestCase):
    def test_all_worths_together(self):
        self.assertEqual(plainly([LEFT, RIGHT], ("sum",), 0), 50)
        self.assertEqual(plainly([LEFT, RIGHT, BEHIND], ("sum",), 0), 43)
        self.assertEqual(plainly([LEFT, RIGHT, ELSEWHERE, BEHIND], ("sum", "last"), 0), 43)

    def test_it_is_not_kept_within_the_bounds_of_a_worth(self):
        puts = [(0, at, (at - 1, 0), at, 0, 999) for at in range(1, 11)]
        self.assertEqual(plainly(puts, ("sum",), 0), 9990)
        puts = [(0, at, (at - 1, 0), at, 0, -999) for at in range(1, 11)]
        self.assertEqual(plainly(puts, ("sum",), 0), -9990)

    def test_worths_that_undo_each_other(self):
        puts = [(0, 1, (0, 0), 1, 0, 999), (1, 1, (0, 0), 1, 0, -999)]
        self.assertEqual(plainly(puts, ("sum",), 0), 0)


class Most(unittest.TestCase):
    def test_the_greatest_wherever_it_stands(self):
        self.assertEqual(plainly([LEFT, RIGHT, BEHIND], ("most",), 0), 30)
        self.assertEqual(plainly([RIGHT, BEHIND], ("most",), 0), 20)
        self.assertEqual(plainly([LEFT, RIGHT, ELSEWHERE, BEHIND], ("most", "most"), 0), 30)
        self.assertEqual(plainly([LEFT, RIGHT, ELSEWHERE, BEHIND], ("most", "most"), 1), 500)

    def test_all_below_nought(self):
        puts = [(0, 1, (0, 0), 1, 0, -999), (1, 1, (0, 0), 1, 0, -3)]
        self.assertEqual(plainly(puts, ("most",), 0), -3)

    def test_nought_is_not_none(self):
        puts = [(0, 1, (0, 0), 1, 0, -999), (1, 1, (0, 0), 1, 0, 0)]
        self.assertEqual(plainly(puts, ("most",), 0), 0)


class Last(unittest.TestCase):
    def test_the_greatest_turn(self):
        self.assertEqual(plainly([LEFT, RIGHT, BEHIND], ("last",), 0), -7)
        self.assertEqual(plainly([LEFT, ELSEWHERE, BEHIND], ("last", "last"), 1), 500)

    def test_a_greater_turn_goes_ahead_of_a_greater_site(self):
        puts = [(0, 1, (0, 0, 0), 1, 0, 1), (0, 2, (1, 0, 0), 2, 0, 2), (2, 1, (0, 0, 0), 1, 0, 3)]
        self.assertEqual(plainly(puts, ("last",), 0), 2)

    def test_a_turn_of_two_figures_goes_ahead_of_one_of_one(self):
        puts = [(0, at, (at - 1, 0), at, 0, 100 - at) for at in range(1, 12)]
        self.assertEqual(plainly(puts, ("last",), 0), 89)

    def test_of_turns_that_are_alike_the_greatest_site(self):
        self.assertEqual(plainly([LEFT, RIGHT], ("last",), 0), 20)
        puts = [(site, 1, (0, 0, 0, 0, 0), 1, 0, 10 - site) for site in range(5)]
        for few in range(1, 6):
            self.assertEqual(plainly(puts[:few], ("last",), 0), 11 - few)
            self.assertEqual(plainly(puts[:few][::-1], ("last",), 0), 11 - few)

    def test_neither_number_nor_worth_counts(self):
        # The put of site 1 has the same turn by a lower number, and the lower worth.
        puts = [(0, 2, (1, 0), 2, 0, 999), (1, 1, (1, 0), 2, 0, -999)]
        self.assertEqual(plainly(puts, ("last",), 0), -999)


class All(unittest.TestCase):
    def test_puts_made_apart_are_all_told(self):
        self.assertEqual(plainly([LEFT, RIGHT], ("all",), 0), [30, 20])

    def test_a_put_that_another_came_behind_is_not_told(self):
        self.assertEqual(plainly([LEFT, RIGHT, BEHIND], ("all",), 0), [-7])
        self.assertEqual(plainly([LEFT, (0, 2, (1, 0), 2, 0, 5)], ("all",), 0), [5])

    def test_one_that_came_behind_some(self):
        puts = [LEFT, RIGHT, (0, 2, (1, 0), 2, 0, 5)]
        self.assertEqual(plainly(puts, ("all",), 0), [5, 20])

    def test_a_put_of_another_key_takes_none_away(self):
        puts = [LEFT, RIGHT, (1, 2, (1, 1), 2, 1, 8)]
        self.assertEqual(plainly(puts, ("all", "all"), 0), [30, 20])
        self.assertEqual(plainly(puts, ("all", "all"), 1), [8])

    def test_behind_by_way_of_a_put_of_another_key(self):
        puts = [LEFT, (1, 1, (1, 0), 2, 1, 8), (1, 2, (1, 1), 3, 0, 9)]
        self.assertEqual(plainly(puts, ("all", "sum"), 0), [9])

    def test_only_some_of_the_puts_are_looked_at(self):
        self.assertEqual(plainly([LEFT], ("all",), 0), [30])
        self.assertEqual(plainly([BEHIND, LEFT], ("all",), 0), [-7])

    def test_the_same_worth_is_told_as_often_as_it_was_put(self):
        puts = [(site, 1, (0, 0, 0), 1, 0, 4) for site in range(3)]
        self.assertEqual(plainly(puts, ("all",), 0), [4, 4, 4])

    def test_a_put_is_no_other_one_to_itself(self):
        # Such a past can't be, but the words ask for another put.
        self.assertEqual(plainly([(0, 1, (1, 0), 1, 0, 6)], ("all",), 0), [6])

    def test_they_are_told_by_site_not_by_turn_or_worth(self):
        # Site 0 has made five puts, so its turn is the greatest; site 2's worth is the least.
        puts = [(2, 1, (0, 0, 0), 1, 0, -5), (1, 1, (0, 0, 0), 1, 0, 50), (0, 5, (4, 0, 0), 5, 0, 9)]
        for some in permutations(puts):
            self.assertEqual(plainly(list(some), ("all",), 0), [9, 50, -5])

    def test_numbers_beyond_nine(self):
        puts = [(0, at, (at - 1, 0), at, 0, at) for at in range(1, 13)] + [(1, 1, (9, 0), 10, 0, 77)]
        self.assertEqual(plainly(puts, ("all",), 0), [12, 77])
        self.assertEqual(plainly(puts[:9] + puts[12:], ("all",), 0), [77])
        self.assertEqual(plainly(puts[:10] + puts[12:], ("all",), 0), [10, 77])

    def test_the_list_may_be_changed_and_is_told_again(self):
        puts = [LEFT, RIGHT]
        told = plainly(puts, ("all",), 0)
        told.append(1)
        told[0] = 0
        self.assertEqual(plainly(puts, ("all",), 0), [30, 20])
        empty = plainly([], ("all",), 0)
        empty.append(1)
        self.assertEqual(plainly([], ("all",), 0), [])


class Order(unittest.TestCase):
    def test_whatever_the_order(self):
        for word, told in (("sum", 43), ("most", 30), ("last", -7), ("all", [-7])):
            for puts in permutations((LEFT, RIGHT, ELSEWHERE, BEHIND)):
                with self.subTest(word=word, puts=puts):
                    self.assertEqual(plainly(list(puts), (word, "sum"), 0), told)

    def test_the_list_handed_in_stays_as_it_was(self):
        for word in WORDS:
            puts = [BEHIND, ELSEWHERE, RIGHT, LEFT]
            plainly(puts, (word, word), 0)
            self.assertEqual(puts, [BEHIND, ELSEWHERE, RIGHT, LEFT])

    def test_the_list_handed_in_is_not_kept(self):
        for word, told in (("sum", 50), ("most", 30), ("last", 20), ("all", [30, 20])):
            puts = [LEFT, RIGHT]
            plainly(puts, (word,), 0)
            puts.clear()
            self.assertEqual(plainly([RIGHT, LEFT], (word,), 0), told)
            self.assertEqual(plainly([RIGHT, LEFT], (word,), 0), told)


class Stores(unittest.TestCase):
    def check(self, store, puts):
        for word in WORDS:
            for key in range(4):
                told = plainly(puts, (word,) * 4, key)
                self.assertEqual(told, store.told(word, key, puts), (word, key, puts))

    def test_each_store_of_two_sites_and_a_few_steps(self):
        for steps in product((("put", 0), ("put", 1), ("hear", 0), ("hear", 1)), repeat=5):
            store = Store(2)
            for at, (step, site) in enumerate(steps):
                if step == "put":
                    store.put(site, 0, at - 2)
                else:
                    store.hear(site, 1 - site)
            self.check(store, store.puts)

    def test_stores_of_two_to_five_sites(self):
        for seed in range(400):
            store = random_store(seed)
            self.check(store, store.puts)
            self.check(store, store.puts[::-1])

    def test_what_each_site_has_applied(self):
        for seed in range(400, 600):
            store = random_store(seed)
            for applied in store.applied:
                self.check(store, applied)

    def test_some_of_the_puts(self):
        for seed in range(600, 800):
            store = random_store(seed)
            self.check(store, random.Random(seed).sample(store.puts, len(store.puts) // 2))


class Refused(unittest.TestCase):
    def refuse(self, error, puts, rules, key):
        with self.assertRaises(error) as caught:
            plainly(puts, rules, key)
        self.assertIs(type(caught.exception), error)
        self.assertIsInstance(caught.exception, PortError)
        self.assertIsInstance(caught.exception, ValueError)

    def test_what_is_no_rules(self):
        for at, rules in enumerate(NO_RULES):
            with self.subTest(at=at):
                self.refuse(BadRules, [], rules, 0)
                self.refuse(BadRules, [LEFT, RIGHT], rules, 0)

    def test_what_is_no_key(self):
        for at, key in enumerate(NO_KEYS):
            with self.subTest(at=at):
                self.refuse(BadKey, [], WORDS, key)
                self.refuse(BadKey, [LEFT, RIGHT], WORDS, key)

    def test_the_key_behind_the_last_one(self):
        for many in range(1, 7):
            rules = ("sum",) * many
            self.assertEqual(plainly([], rules, many - 1), 0)
            self.refuse(BadKey, [], rules, many)

    def test_a_key_that_the_puts_have_but_the_rules_have_not(self):
        self.refuse(BadKey, [ELSEWHERE], ("sum",), 1)

    def test_the_rules_are_refused_ahead_of_the_key(self):
        for at, rules in enumerate(NO_RULES):
            for key in NO_KEYS:
                with self.subTest(at=at):
                    self.refuse(BadRules, [LEFT], rules, key)

    def test_rules_of_one_to_six_words_are_taken(self):
        for rules in (("all",), WORDS, ("sum", "sum"), ("last",) * 5, WORDS + ("all", "sum"), ("most",) * 6):
            for key, word in enumerate(rules):
                put = (0, 1, (0, 0), 1, key, 6)
                self.assertEqual(plainly([put], rules, key), [6] if word == "all" else 6)

    def test_each_key_goes_by_its_own_rule(self):
        puts = [(0, 4 * key + at, (4 * key + at - 1, 0), 4 * key + at, key, worth)
                for key in range(4) for at, worth in enumerate((3, 9, 5), 1)]
        for rules in permutations(WORDS):
            told = [plainly(puts, rules, key) for key in range(4)]
            self.assertEqual(told, [{"sum": 17, "most": 9, "last": 5, "all": [5]}[word] for word in rules])

    def test_what_was_refused_changes_nothing(self):
        puts, rules = [LEFT, RIGHT], ["sum"]
        self.refuse(BadRules, puts, rules, 0)
        self.refuse(BadKey, puts, ("sum",), 1)
        self.assertEqual((puts, rules), ([LEFT, RIGHT], ["sum"]))


if __name__ == "__main__":
    unittest.main()
