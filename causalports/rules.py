"""Puts, and what a key holds by some of them."""

from causalports.checks import is_whole
from causalports.errors import BadKey, BadRules

# Where the parts of a put stand in it.
SITE = 0
NUMBER = 1
PAST = 2
TURN = 3
KEY = 4
WORTH = 5

WORDS = ("sum", "most", "last", "all")
MOST_KEYS = 6
MOST_WORTH = 999


def check_rules(rules):
    """Refuse what is no tuple of one to six of the words."""
    if not isinstance(rules, tuple) or not 1 <= len(rules) <= MOST_KEYS:
        raise BadRules("rules are a tuple of one to six words")
    for word in rules:
        if word not in WORDS:
            raise BadRules("a rule is one of the words sum, most, last, all")


def is_key(thing, rules):
    """Tell whether a thing is a key of these rules."""
    return is_whole(thing, 0, len(rules) - 1)


def check_key(key, rules):
    """Refuse what is no key of these rules."""
    if not is_key(key, rules):
        raise BadKey(f"a key is a number from 0 to {len(rules) - 1}")


def is_worth(thing):
    """Tell whether a thing is a worth."""
    return is_whole(thing, -MOST_WORTH, MOST_WORTH)


def place_of(put):
    """Tell a put's site and number, by which it is told from all others."""
    return put[SITE], put[NUMBER]


def turn_of(put):
    """Tell a put's turn and site: the order that "last" goes by."""
    return put[TURN], put[SITE]


def came_behind(later, earlier):
    """Tell whether the first of two puts came behind the other: whether its past stands for it."""
    site, number = place_of(earlier)
    return later[PAST][site] >= number


def is_followed(put, puts):
    """Tell whether another one of some puts came behind a put."""
    for other in puts:
        if other != put and came_behind(other, put):
            return True
    return False


def held_by_sum(puts):
    """Tell all worths together."""
    return sum([put[WORTH] for put in puts])


def held_by_most(puts):
    """Tell the greatest worth, None for no puts."""
    return max([put[WORTH] for put in puts], default=None)


def held_by_last(puts):
    """Tell the worth of the greatest turn, of several of the greatest site, None for no puts."""
    if not puts:
        return None
    return max(puts, key=turn_of)[WORTH]


def held_by_all(puts):
    """Tell the worths of the puts that no other one came behind, as their sites and numbers rise."""
    # The latest ones stand first, because one of them is likely to have come behind.
    latest = sorted(puts, key=turn_of, reverse=True)
    ends = [put for put in puts if not is_followed(put, latest)]
    return [put[WORTH] for put in sorted(ends, key=place_of)]


HELD_BY = {"sum": held_by_sum, "most": held_by_most, "last": held_by_last, "all": held_by_all}


def plainly(puts, rules, key):
    """Tell what a key holds by a list of puts, whatever their order."""
    check_rules(rules)
    check_key(key, rules)
    held = HELD_BY[rules[key]]
    return held([put for put in puts if put[KEY] == key])
