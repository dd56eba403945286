"""Sessions: they go from site to site, and are sure of what they want wherever they go."""

from causalports.errors import BadWants
from causalports.rules import place_of
from causalports.tokens import check_many, joined, nothing

ALL_WANTS = ("own", "rising", "after", "turn")


def check_wants(wants):
    """Refuse what is no tuple of the words, each once."""
    if not isinstance(wants, tuple):
        raise BadWants("wants are a tuple")
    for word in wants:
        if word not in ALL_WANTS or wants.count(word) > 1:
            raise BadWants("wants are words out of own, rising, after, turn, each once")


class Session:
    """A session: its wants, and the tokens of what it put and of what it saw."""

    def __init__(self, many, *, wants=ALL_WANTS):
        check_many(many)
        check_wants(wants)
        self._many = many
        self._wants = wants
        self._mine = nothing(many)
        self._seen = nothing(many)

    def look(self, site, now, key, *, within=None):
        """Look at a site that has what this session wants to see; tell what the site tells."""
        told = site.look(now, key, token=self._wanted("own", "rising"), within=within)
        self._seen = joined(self._seen, site.applied())
        return told

    def put(self, site, now, key, worth):
        """Put at a site that has what the put is to come behind; tell the token of what this session put."""
        site.put(now, key, worth, token=self._wanted("turn", "after"))
        at, number = place_of(site.log()[-1])
        last = tuple([number if place == at else 0 for place in range(self._many)])
        self._mine = joined(self._mine, last)
        return self._mine

    def tokens(self):
        """Tell the tokens of what this session put and of what it saw."""
        return self._mine, self._seen

    def take(self, *, mine=None, seen=None):
        """Join tokens of another session with the own ones."""
        both_mine = self._mine if mine is None else joined(self._mine, mine)
        both_seen = self._seen if seen is None else joined(self._seen, seen)
        # Only now, because neither is taken if the other one is refused.
        self._mine = both_mine
        self._seen = both_seen

    def _wanted(self, mine_by, seen_by):
        """Tell the token to go by: of what was put by the one want, joined with what was seen by the other."""
        token = nothing(self._many)
        if mine_by in self._wants:
            token = joined(token, self._mine)
        if seen_by in self._wants:
            token = joined(token, self._seen)
        return token
