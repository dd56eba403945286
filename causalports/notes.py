"""Texts: tokens and logs, written and read."""

from causalports.errors import BadText, BadToken
from causalports.tokens import FEWEST_SITES, MOST_SITES, is_token

PUT_WORD = "put"
# A put's words behind the first one, but for the counts of its past: site, number, turn, key, worth.
OTHER_WORDS = 5
MOST_FIGURES = 4


def is_number(word):
    """Tell whether a word is a number of one to four figures, none needless."""
    figures = word.removeprefix("-")
    if not figures.isdecimal() or len(figures) > MOST_FIGURES:
        return False
    # Needless noughts, the sign of -0 and figures of other scripts don't come back when the number is written anew.
    return str(int(word)) == word


def numbers_of(words, row):
    """Tell the numbers that the words of a row are."""
    for word in words:
        if not is_number(word):
            raise BadText(row)
    return [int(word) for word in words]


def check_text(text):
    """Refuse what is no text."""
    if not isinstance(text, str):
        raise BadText(0)


def written(token):
    """Tell a token as a text."""
    if not is_token(token):
        raise BadToken("a token is a tuple of 2 to 5 counts from 0 to 999")
    return " ".join([str(count) for count in token])


def written_put(put):
    """Tell a put as a row of a text."""
    site, number, past, turn, key, worth = put
    return " ".join([PUT_WORD] + [str(part) for part in (site, number, *past, turn, key, worth)])


def written_log(log):
    """Tell a log as a text, a row for each put."""
    return "\n".join([written_put(put) for put in log])


def read(text):
    """Tell the token that a text is."""
    check_text(text)
    token = tuple(numbers_of(text.split(" "), 0))
    if not is_token(token):
        raise BadToken("a token is a tuple of 2 to 5 counts from 0 to 999")
    return token


def read_put(line, row):
    """Tell the put that a row of a text is, whether it can be or not."""
    first, *words = line.split(" ")
    if first != PUT_WORD or not FEWEST_SITES <= len(words) - OTHER_WORDS <= MOST_SITES:
        raise BadText(row)
    site, number, *past, turn, key, worth = numbers_of(words, row)
    return site, number, tuple(past), turn, key, worth


def read_log(text):
    """Tell the log that a text is."""
    check_text(text)
    if text == "":
        return []
    return [read_put(line, row) for row, line in enumerate(text.split("\n"))]
