"""Tokens: a count for each site, which stand for the first so many puts that each site made."""

from causalports.checks import is_whole
from causalports.errors import BadSite, BadToken

FEWEST_SITES = 2
MOST_SITES = 5
MOST_PUTS = 999


def check_many(many):
    """Refuse what is not how many sites there may be."""
    if not is_whole(many, FEWEST_SITES, MOST_SITES):
        raise BadSite(f"there are {FEWEST_SITES} to {MOST_SITES} sites")


def nothing(many):
    """Tell the token of so many sites that stands for no put."""
    return (0,) * many


def is_token(thing):
    """Tell whether a thing is a token, of however many sites there may be."""
    if not isinstance(thing, tuple):
        return False
    if not FEWEST_SITES <= len(thing) <= MOST_SITES:
        return False
    return all([is_whole(count, 0, MOST_PUTS) for count in thing])


def is_token_of(thing, many):
    """Tell whether a thing is a token of just so many sites."""
    return is_token(thing) and len(thing) == many


def check_pair(one, other):
    """Refuse what aren't two tokens of equally many sites."""
    for token in (one, other):
        if not is_token(token):
            raise BadToken("a token is a tuple of 2 to 5 counts from 0 to 999")
    if len(one) != len(other):
        raise BadToken(f"a token of {len(one)} sites beside one of {len(other)}")


def is_within(one, other):
    """Tell whether the first of two tokens is no more than the other in any count."""
    return all([mine <= theirs for mine, theirs in zip(one, other)])


def stepped(token, site):
    """Tell the token that stands for the next put of a site, too."""
    return token[:site] + (token[site] + 1,) + token[site + 1:]


def joined(one, other):
    """Tell the least token that is no less than either of two in any count."""
    check_pair(one, other)
    return tuple([max(mine, theirs) for mine, theirs in zip(one, other)])


def compared(one, other):
    """Tell how the first of two tokens stands to the other: "same", "less", "more" or "apart"."""
    check_pair(one, other)
    if one == other:
        return "same"
    if is_within(one, other):
        return "less"
    if is_within(other, one):
        return "more"
    return "apart"
