"""The tokens of texts of tournaments and of rings."""

from ringbeats.errors import BadValue, TextError
from ringbeats.kinds import MOST_PLAYERS

MOST_CHARACTERS = 300
MOST_DIGITS = 6
MARKS = ".+-"
DIGITS = "0123456789"
SIGN = ":"


def scan(text):
    """Return the list of the tokens of a text, each a tuple of its kind, its characters and its column."""
    check_text(text)
    tokens = []
    at = 0
    while at < len(text):
        if text[at] == " ":
            at += 1
        else:
            token = _token(text, at)
            tokens.append(token)
            at += len(token[1])
    tokens.append(("end", "", len(text) + 1))
    return tokens


def check_text(text):
    """Raise BadValue if the text is not a text."""
    if not isinstance(text, str) or len(text) > MOST_CHARACTERS or "\n" in text:
        raise BadValue("text")


def _token(text, at):
    """Return the token that begins at this index of the text."""
    column = at + 1
    if text[at] == SIGN:
        return "sign", SIGN, column
    if text[at] in MARKS:
        marks = _stretch(text, at, MARKS)
        if len(marks) > MOST_PLAYERS:
            raise TextError(column, "a row has at most 8 marks")
        return "row", marks, column
    # Other digits than these count as digits for Python, but not for the document.
    if text[at] in DIGITS:
        digits = _stretch(text, at, DIGITS)
        if len(digits) > MOST_DIGITS:
            raise TextError(column, "a number has at most 6 digits")
        return "number", digits, column
    raise TextError(column, "no token begins here")


def _stretch(text, at, characters):
    """Return the longest part of the text from this index on that has these characters alone."""
    end = at
    while end < len(text) and text[end] in characters:
        end += 1
    return text[at:end]
