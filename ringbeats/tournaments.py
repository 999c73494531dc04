"""Tournaments, their triangles, obstructions and twins."""

from ringbeats.errors import BadValue
from ringbeats.kinds import MOST_PLAYERS, are_whole, is_ascending, is_whole


def is_tournament(value):
    """Return True if the value is a tournament, otherwise False."""
    if not isinstance(value, tuple) or not 1 <= len(value) <= MOST_PLAYERS:
        return False
    players = len(value)
    if not all([is_ascending(row, players) for row in value]):
        return False
    return _has_each_result_once(value)


def check_tournament(tournament):
    """Raise BadValue if the tournament is not a tournament."""
    if not is_tournament(tournament):
        raise BadValue("tournament")


def check_player(tournament, player, name):
    """Raise BadValue with the name of the argument if the player is not one of the tournament."""
    if not is_whole(player, 0, len(tournament) - 1):
        raise BadValue(name)


def triangles(tournament):
    """Return the ascending list of the triangles."""
    check_tournament(tournament)
    found = []
    # The rows are ascending, so the triangles come in their order.
    for x in range(len(tournament)):
        for y in tournament[x]:
            for z in tournament[y]:
                if _beat_in_turn(tournament, (x, y, z)):
                    found.append((x, y, z))
    return found


def is_triangle(tournament, value):
    """Return True if the value is a triangle of the tournament, which is not checked, otherwise False."""
    return are_whole(value, 3, 0, len(tournament) - 1) and _beat_in_turn(tournament, value)


def count_triangles(tournament):
    """Return the number of the triangles."""
    check_tournament(tournament)
    players = len(tournament)
    threes = players * (players - 1) * (players - 2) // 6
    # Three players that are no triangle have exactly one among them who beats the two others.
    return threes - sum([len(row) * (len(row) - 1) // 2 for row in tournament])


def obstruction(tournament):
    """Return the first obstruction, or None."""
    check_tournament(tournament)
    three_in_turn = triangles(tournament)
    for player in range(len(tournament)):
        for three in three_in_turn:
            if _beats_all_or_none(tournament, player, three):
                return (player, *three)
    return None


def accepts_obstruction(tournament, value):
    """Return True if the value is an obstruction, otherwise False."""
    check_tournament(tournament)
    if not are_whole(value, 4, 0, len(tournament) - 1):
        return False
    three = value[1:]
    return is_triangle(tournament, three) and _beats_all_or_none(tournament, value[0], three)


def twins(tournament):
    """Return the ascending list of the pairs of twins, the lesser player first."""
    check_tournament(tournament)
    players = len(tournament)
    return [
        (one, other)
        for one in range(players)
        for other in range(one + 1, players)
        if _are_twins(tournament, one, other)
    ]


def _has_each_result_once(rows):
    """Return True if nobody beats itself, and of any two players exactly one beats the other."""
    for one in range(len(rows)):
        if one in rows[one]:
            return False
        for other in range(one):
            if (other in rows[one]) == (one in rows[other]):
                return False
    return True


def _beat_in_turn(tournament, three):
    """Return True if the first and least of the three players beats the second, that the third, and that the first."""
    x, y, z = three
    return x < y and x < z and y in tournament[x] and z in tournament[y] and x in tournament[z]


def _beats_all_or_none(tournament, player, three):
    """Return True if the player, outside of the triangle, beats all three of it, or all three beat the player."""
    # A player of the triangle itself beats exactly one of the three, so it needs no test of its own.
    return len([other for other in three if other in tournament[player]]) in (0, 3)


def _are_twins(tournament, one, other):
    """Return True if each further player beats both or neither of the two."""
    for player in range(len(tournament)):
        row = tournament[player]
        if player != one and player != other and (one in row) != (other in row):
            return False
    return True
