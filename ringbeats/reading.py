"""Reading the texts of tournaments and of rings, and what can come next in them."""

from ringbeats.errors import BadValue, TextError
from ringbeats.kinds import MOST_PLAYERS
from ringbeats.rings import is_ring
from ringbeats.scanning import check_text, scan

# What can come at each place of a text; at all further places the same as at the last one told.
GRAMMARS = {
    "tournament": (("row",), ("row", "end")),
    "ring": (("number",), ("sign",), ("number",), ("number", "end")),
}
WORDS = {"row": "a row", "number": "a number", "sign": '":"', "end": "the end"}


def next_tokens(text, kind):
    """Return the list of what can come behind the tokens of the beginning of a text of this kind, in words."""
    check_text(text)
    if kind not in ("tournament", "ring"):
        raise BadValue("kind")
    # Behind the beginning of a text stands no end yet.
    tokens = scan(text)[:-1]
    _check_tokens(tokens, kind)
    return _expected(kind, len(tokens))


def read_tournament(text):
    """Return the tournament of the text."""
    tokens = scan(text)
    _check_tokens(tokens, "tournament")
    rows = []
    for _, row, column in tokens[:-1]:
        rows.append(row)
        words = _row_problem(rows)
        if words is not None:
            raise TextError(column, words)
    if len(rows) < len(rows[0]):
        raise TextError(tokens[-1][2], "a row is missing")
    return tuple([_beaten_by(row) for row in rows])


def read_ring(text):
    """Return the pair of the ring and the places of the text."""
    tokens = scan(text)
    _check_tokens(tokens, "ring")
    _, digits, column = tokens[0]
    ring = int(digits)
    if not is_ring(ring):
        raise TextError(column, "a ring is an odd number from 1 to 31")
    places = []
    for _, digits, column in tokens[2:-1]:
        words = _place_problem(ring, places, int(digits))
        if words is not None:
            raise TextError(column, words)
        places.append(int(digits))
    return ring, tuple(places)


def _check_tokens(tokens, kind):
    """Raise TextError at the first token that cannot come at its place in a text of this kind."""
    for at in range(len(tokens)):
        token_kind, _, column = tokens[at]
        if token_kind not in _can_come(kind, at):
            raise TextError(column, f"expected {_told(_expected(kind, at))}")


def _can_come(kind, at):
    """Return the kinds of tokens that can come at this place of a text of this kind."""
    places = GRAMMARS[kind]
    return places[min(at, len(places) - 1)]


def _expected(kind, at):
    """Return the list of what can come at this place of a text of this kind, in words."""
    return [WORDS[token_kind] for token_kind in _can_come(kind, at)]


def _told(words):
    """Return what can come as one string, with `or` before the last one of several."""
    if len(words) == 1:
        return words[0]
    return ", ".join(words[:-1]) + " or " + words[-1]


def _row_problem(rows):
    """Return the words of the problem that the last one of the rows has, or None; those before it have none."""
    player, row, many = len(rows) - 1, rows[-1], len(rows[0])
    if player >= many:
        return "there is no such player"
    if len(row) != many:
        return "a row has another length"
    if [other for other in range(many) if row[other] == "."] != [player]:
        return "a row has . at its player"
    if any([row[other] == rows[other][player] for other in range(player)]):
        return "two rows disagree"
    return None


def _beaten_by(row):
    """Return the ascending tuple of the players whom the player of the row beats."""
    return tuple([player for player in range(len(row)) if row[player] == "+"])


def _place_problem(ring, places, place):
    """Return the words of the problem that a further place behind these has, or None."""
    if len(places) == MOST_PLAYERS:
        return "there are at most 8 players"
    if place >= ring:
        return "there is no such place"
    if place in places:
        return "this place stands already"
    return None
