"""Transitive tournaments and their orders; tournaments reversed, restricted and renamed."""

from ringbeats.errors import BadValue
from ringbeats.kinds import is_ascending, is_order
from ringbeats.tournaments import check_tournament, is_triangle, triangles


def has_order(tournament):
    """Return True if the tournament is transitive, otherwise False."""
    # A tournament is transitive if and only if all scores are different.
    return len(set(scores(tournament))) == len(tournament)


def order_evidence(tournament):
    """Return evidence about the tournament: its order, or its first triangle."""
    if not has_order(tournament):
        return "triangle", triangles(tournament)[0]
    return "order", tuple(sorted(range(len(tournament)), key=lambda player: -len(tournament[player])))


def accepts_order(tournament, value):
    """Return True if the value is evidence about the tournament, of either word, otherwise False."""
    check_tournament(tournament)
    if not isinstance(value, tuple) or len(value) != 2:
        return False
    word, told = value
    if word == "order":
        return is_order(told, len(tournament)) and _each_beats_all_behind(tournament, told)
    return word == "triangle" and is_triangle(tournament, told)


def scores(tournament):
    """Return the tuple of the scores: how many players each one beats."""
    check_tournament(tournament)
    return tuple([len(row) for row in tournament])


def reversed_results(tournament):
    """Return the tournament with all results turned."""
    check_tournament(tournament)
    players = range(len(tournament))
    return tuple([tuple([one for one in players if other in tournament[one]]) for other in players])


def restricted(tournament, players):
    """Return the tournament of these players alone, numbered anew in their order."""
    check_tournament(tournament)
    if not is_ascending(players, len(tournament)) or len(players) == 0:
        raise BadValue("players")
    return tuple([_row_among(players, tournament[player]) for player in players])


def renamed(tournament, order):
    """Return the tournament in which order[x] beats order[y] if and only if x beats y in this one."""
    check_tournament(tournament)
    if not is_order(order, len(tournament)):
        raise BadValue("order")
    rows = [()] * len(tournament)
    for player in range(len(tournament)):
        rows[order[player]] = tuple(sorted([order[other] for other in tournament[player]]))
    return tuple(rows)


def _each_beats_all_behind(tournament, order):
    for at in range(len(order)):
        if not all([other in tournament[order[at]] for other in order[at + 1:]]):
            return False
    return True


def _row_among(players, row):
    """Return the new numbers of those of the players who stand in the row."""
    return tuple([at for at in range(len(players)) if players[at] in row])
