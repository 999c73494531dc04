"""Cycles, rows of all players, and walks without end."""

from ringbeats.errors import BadValue
from ringbeats.kinds import GREATEST_LEVEL, MOST_PLAYERS, are_whole, is_whole
from ringbeats.tournaments import check_player, check_tournament, is_triangle, triangles
from ringbeats.transitive import scores

FEWEST_IN_A_CYCLE = 3


def first_cycle(tournament, player, many):
    """Return the first cycle of the player with so many players, or None if there is none."""
    check_tournament(tournament)
    check_player(tournament, player, "player")
    if not is_whole(many, FEWEST_IN_A_CYCLE, MOST_PLAYERS):
        raise BadValue("many")
    for walk in _walks_of_different(tournament, [(player,)], many):
        if player in tournament[walk[-1]]:
            return walk
    return None


def first_row(tournament):
    """Return the first row of all."""
    return _rows(tournament)[0]


def count_rows(tournament):
    """Return the number of the rows of all."""
    return len(_rows(tournament))


def endless_evidence(tournament):
    """Return the first triangle, or numbers if there is none, as evidence about walks without end."""
    three_in_turn = triangles(tournament)
    if three_in_turn:
        return "triangle", three_in_turn[0]
    # Without a triangle, who beats a player beats all whom that one beats, too, and so has a greater score.
    return "levels", scores(tournament)


def accepts_endless(tournament, value):
    """Return True if the value is evidence about walks without end, of either word, otherwise False."""
    check_tournament(tournament)
    if not isinstance(value, tuple) or len(value) != 2:
        return False
    word, told = value
    if word == "triangle":
        return is_triangle(tournament, told)
    return word == "levels" and _fall(tournament, told)


def _rows(tournament):
    """Return the ascending list of the rows of all."""
    check_tournament(tournament)
    alone = [(player,) for player in range(len(tournament))]
    return _walks_of_different(tournament, alone, len(tournament))


def _walks_of_different(tournament, starts, many):
    """Return the ascending list of the walks of so many different players that begin with one of these, ascending."""
    walks = list(starts)
    while walks and len(walks[0]) < many:
        walks = [(*walk, player) for walk in walks for player in tournament[walk[-1]] if player not in walk]
    return walks


def _fall(tournament, value):
    """Return True if the value is numbers by which each player has a lesser one than all that beat it."""
    if not are_whole(value, len(tournament), 0, GREATEST_LEVEL):
        return False
    for player in range(len(tournament)):
        if not all([value[beaten] < value[player] for beaten in tournament[player]]):
            return False
    return True
