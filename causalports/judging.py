"""Logs, one for each site: whether they can be, and all their puts in one order."""

from causalports.checks import is_whole
from causalports.errors import BadLogs
from causalports.rules import KEY, NUMBER, PAST, SITE, TURN, WORTH, check_rules, is_key, is_worth, turn_of
from causalports.tokens import MOST_PUTS, check_many, is_token_of, is_within, nothing, stepped

PARTS = 6
# Stands for the row where it is a whole log that is lacking, or too many.
WHOLE_LOG = -1


def is_put(thing, many, rules):
    """Tell whether a thing is a put by its form."""
    if not isinstance(thing, tuple) or len(thing) != PARTS:
        return False
    return all([
        is_whole(thing[SITE], 0, many - 1),
        is_whole(thing[NUMBER], 1, MOST_PUTS),
        is_token_of(thing[PAST], many),
        is_whole(thing[TURN], 1, MOST_PUTS * many),
        is_key(thing[KEY], rules),
        is_worth(thing[WORTH]),
    ])


def check_logs(many, rules, logs):
    """Refuse what isn't a log of puts for each site."""
    check_many(many)
    check_rules(rules)
    if not isinstance(logs, list):
        raise BadLogs(0, WHOLE_LOG)
    for site in range(max(many, len(logs))):
        if site >= many or site >= len(logs) or not isinstance(logs[site], list):
            raise BadLogs(site, WHOLE_LOG)
        for row, put in enumerate(logs[site]):
            if not is_put(put, many, rules):
                raise BadLogs(site, row)


def made_by_logs(logs):
    """Tell the puts that stand in their own sites' logs, as a dict of True."""
    return {put: True for site, log in enumerate(logs) for put in log if put[SITE] == site}


def is_next(put, applied):
    """Tell whether a put can be applied next, by the token of what is applied."""
    site = put[SITE]
    if put[NUMBER] != applied[site] + 1 or put[PAST][site] != applied[site]:
        return False
    return is_within(put[PAST], applied)


def first_wrong(site, log, many, made):
    """Tell the first row of a site's log that can't be, None if all can."""
    applied = nothing(many)
    turn = 0
    for row, put in enumerate(log):
        if not is_next(put, applied) or put not in made:
            return row
        if put[SITE] == site and (put[PAST] != applied or put[TURN] != turn + 1):
            return row
        applied = stepped(applied, put[SITE])
        turn = max(turn, put[TURN])
    return None


def judged(many, rules, logs):
    """Tell (site, row) of the first row of the logs that can't be, None if all can."""
    check_logs(many, rules, logs)
    made = made_by_logs(logs)
    for site, log in enumerate(logs):
        row = first_wrong(site, log, many, made)
        if row is not None:
            return site, row
    return None


def ordered(many, rules, logs):
    """Tell all puts of logs that can be, each once, by their turns and sites; None if they can't be."""
    if judged(many, rules, logs) is not None:
        return None
    # Of logs that can be, each put stands in its own site's log.
    return sorted(made_by_logs(logs), key=turn_of)
