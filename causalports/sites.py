"""Sites: each takes puts by itself, tells them to the others by letters, and tells what its keys hold."""

from causalports.checks import is_whole
from causalports.errors import BadCount, BadNow, BadSite, BadToken, BadWorth, NotYet, Stale
from causalports.rules import NUMBER, PAST, SITE, TURN, check_key, check_rules, is_worth, place_of, plainly
from causalports.tokens import MOST_PUTS, check_many, is_token_of, is_within, joined, nothing, stepped

LAST_MOMENT = 1000000
MOST_WITHIN = 999


class Site:
    """One site of a store."""

    def __init__(self, number, many, rules):
        check_many(many)
        if not is_whole(number, 0, many - 1):
            raise BadSite(f"a site is a number from 0 to {many - 1}")
        check_rules(rules)
        self._number = number
        self._many = many
        self._rules = rules
        self._now = 0
        # What is applied: the puts, the token that stands for them, and the greatest turn of them.
        self._log = []
        self._applied = nothing(many)
        self._turn = 0
        # What was heard and can't be applied yet, by its places.
        self._waits = {}
        # What the letters of each other site told that it has applied, and the latest moment of one.
        self._known = {other: nothing(many) for other in range(many) if other != number}
        self._heard_at = {}

    def put(self, now, key, worth, *, token=None):
        """Make a put and apply it; tell the token of all that is applied."""
        self._check_now(now)
        check_key(key, self._rules)
        if not is_worth(worth):
            raise BadWorth("a worth is a number from -999 to 999")
        self._check_token(token)
        made = self._applied[self._number]
        if made == MOST_PUTS:
            raise BadCount(f"a site makes {MOST_PUTS} puts at the most")
        self._now = now
        self._apply((self._number, made + 1, self._applied, self._turn + 1, key, worth))
        return self._applied

    def look(self, now, key, *, token=None, within=None):
        """Tell what a key holds by all puts that are applied here."""
        self._check_now(now)
        check_key(key, self._rules)
        self._check_token(token)
        if within is not None:
            self._check_within(now, within)
        self._now = now
        return plainly(self._log, self._rules, key)

    def letter(self, now, to):
        """Tell what to send to another site."""
        self._check_now(now)
        if not is_whole(to, 0, self._many - 1) or to == self._number:
            raise BadSite("a letter is for another site")
        self._now = now
        # All that is kept, not just what that site lacks: so no site that hears it can lack any of it.
        return self._number, now, self._applied, tuple(self._kept_puts())

    def hear(self, letter):
        """Take in a letter of another site."""
        other, moment, token, puts = letter
        for put in puts:
            if put[NUMBER] > self._applied[put[SITE]]:
                self._waits[place_of(put)] = put
        self._apply_what_can_be()
        # Letters may be late: what an elder one tells is less than what is known.
        self._known[other] = joined(self._known[other], token)
        self._heard_at[other] = max(moment, self._heard_at.get(other, moment))

    def applied(self):
        """Tell the token of all that is applied here."""
        return self._applied

    def waiting(self):
        """Tell (site, number) of all that was heard and isn't applied yet, rising."""
        return sorted(self._waits)

    def log(self):
        """Tell all puts that are applied here, in the order in which they were."""
        return list(self._log)

    def kept(self):
        """Tell how many of the puts applied here some other site isn't known to have."""
        return len(self._kept_puts())

    def stale(self, now):
        """Tell how many moments, at the most, this site may be stale; None if it doesn't know."""
        self._check_now(now)
        self._now = now
        return self._stale_by(now)

    def _check_now(self, now):
        if not is_whole(now, self._now, LAST_MOMENT):
            raise BadNow(f"here a moment is a number from {self._now} to {LAST_MOMENT}")

    def _check_token(self, token):
        if token is None:
            return
        if not is_token_of(token, self._many):
            raise BadToken(f"here a token is a tuple of {self._many} counts from 0 to 999")
        lacks = [(site, has + 1) for site, has in enumerate(self._applied) if token[site] > has]
        if lacks:
            raise NotYet(lacks)

    def _check_within(self, now, within):
        if not is_whole(within, 0, MOST_WITHIN):
            raise BadCount(f"a look is asked to be within 0 to {MOST_WITHIN} moments")
        by = self._stale_by(now)
        if by is None or by > within:
            raise Stale(by)

    def _stale_by(self, now):
        # What a site puts behind a letter, it puts at the letter's moment or later.
        moments = [self._heard_at.get(other) for other in self._known]
        if None in moments:
            return None
        return now - min(moments)

    def _apply(self, put):
        self._log.append(put)
        self._applied = stepped(self._applied, put[SITE])
        self._turn = max(self._turn, put[TURN])

    def _apply_what_can_be(self):
        before = len(self._waits) + 1
        # A put that is applied may be what another one waited for.
        while len(self._waits) < before:
            before = len(self._waits)
            still = {}
            for place, put in self._waits.items():
                if is_within(put[PAST], self._applied):
                    self._apply(put)
                else:
                    still[place] = put
            self._waits = still

    def _kept_puts(self):
        known = list(self._known.values())
        had_by_all = [min(counts) for counts in zip(*known)]
        return [put for put in self._log if put[NUMBER] > had_by_all[put[SITE]]]
