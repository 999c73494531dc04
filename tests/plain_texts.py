"""What the document says of texts, written down once more for the tests, as plainly as can be."""

import re

from plain import beats

GRAMMARS = {"tournament": re.compile("r+e"), "ring": re.compile("nsn+e")}
LETTERS = {"row": "r", "number": "n", "sign": "s", "end": "e"}
# In the order in which the document lists what can come.
WORDS = {"r": "a row", "n": "a number", "s": '":"', "e": "the end"}
# Each beginning of a text of both grammars comes to its end with one of these.
TAILS = ("", "e", "re", "ne", "sne", "nsne")


class Problem(Exception):
    """The column and the words of a problem of a text."""


def plain_scan(text):
    """The tokens of the text, or its first problem."""
    tokens = []
    for found in re.finditer(r"[.+-]+|[0-9]+|[^ ]", text, re.DOTALL):
        characters, column = found.group(), found.start() + 1
        if characters[0] in ".+-":
            kind, too_long = "row", len(characters) > 8 and "a row has at most 8 marks"
        elif characters[0] in "0123456789":
            kind, too_long = "number", len(characters) > 6 and "a number has at most 6 digits"
        else:
            kind, too_long = "sign", characters != ":" and "no token begins here"
        if too_long:
            raise Problem(column, too_long)
        tokens.append((kind, characters, column))
    return [*tokens, ("end", "", len(text) + 1)]


def is_beginning(letters, kind):
    return any(GRAMMARS[kind].fullmatch(letters + tail) for tail in TAILS)


def can_come(letters, kind):
    """The words for what can come behind tokens that are the beginning of a text of this kind."""
    return [word for letter, word in WORDS.items() if is_beginning(letters + letter, kind)]


def check_grammar(tokens, kind):
    letters = ""
    for token_kind, _, column in tokens:
        words = can_come(letters, kind)
        letters += LETTERS[token_kind]
        if not is_beginning(letters, kind):
            told = words[0] if len(words) == 1 else f"{', '.join(words[:-1])} or {words[-1]}"
            raise Problem(column, f"expected {told}")


def plain_next(text, kind):
    tokens = plain_scan(text)[:-1]
    check_grammar(tokens, kind)
    return can_come("".join(LETTERS[token[0]] for token in tokens), kind)


def plain_tournament(text):
    """The tournament of the text, or its first problem."""
    tokens = plain_scan(text)
    check_grammar(tokens, "tournament")
    rows, many = [], len(tokens[0][1])
    for _, row, column in tokens[:-1]:
        player = len(rows)
        if len(rows) == many:
            raise Problem(column, "there is no such player")
        if len(row) != many:
            raise Problem(column, "a row has another length")
        if row[player] != "." or row.count(".") != 1:
            raise Problem(column, "a row has . at its player")
        for earlier in range(player):
            if {row[earlier], rows[earlier][player]} != {"+", "-"}:
                raise Problem(column, "two rows disagree")
        rows.append(row)
    if len(rows) < many:
        raise Problem(tokens[-1][2], "a row is missing")
    return tuple(tuple(other for other in range(many) if row[other] == "+") for row in rows)


def plain_ring(text):
    """The ring and the places of the text, or its first problem."""
    tokens = plain_scan(text)
    check_grammar(tokens, "ring")
    ring = int(tokens[0][1])
    if ring not in range(1, 32, 2):
        raise Problem(tokens[0][2], "a ring is an odd number from 1 to 31")
    places = ()
    for _, digits, column in tokens[2:-1]:
        if len(places) == 8:
            raise Problem(column, "there are at most 8 players")
        if int(digits) not in range(ring):
            raise Problem(column, "there is no such place")
        if int(digits) in places:
            raise Problem(column, "this place stands already")
        places += (int(digits),)
    return ring, places


def written_tournament(tournament):
    def mark(player, other):
        return "." if player == other else "+" if beats(tournament, player, other) else "-"

    players = range(len(tournament))
    return " ".join("".join(mark(player, other) for other in players) for player in players)


def written_ring(ring, places):
    return str(ring) + ":" + "".join(" " + str(place) for place in places)
