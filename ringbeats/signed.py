"""Signed orders: rows of players, each as itself or as its opposite, that stand for circular tournaments."""

from ringbeats.errors import BadValue
from ringbeats.kinds import MOST_PLAYERS, is_order, is_whole
from ringbeats.tournaments import check_player, check_tournament


def told_order(tournament):
    """Return the signed order of the tournament that begins with player 0 itself, or None if it is not circular."""
    check_tournament(tournament)
    # Player 0 comes before all others, so just those whom it beats look like it.
    signed = [(player, player == 0 or player in tournament[0]) for player in range(len(tournament))]
    order = tuple(sorted(signed, key=lambda entry: -_count_behind(tournament, signed, entry)))
    return order if accepts_order(tournament, order) else None


def stands_for(order):
    """Return the tournament for which the signed order stands."""
    if not _is_signed_order(order):
        raise BadValue("order")
    rows = [[] for _ in order]
    for later in range(len(order)):
        for earlier in range(later):
            winner, loser = _result(order[earlier], order[later])
            rows[winner].append(loser)
    return tuple([tuple(sorted(row)) for row in rows])


def turned_order(tournament, player, itself):
    """Return the turn of the told order from this signed player, or None if the tournament is not circular."""
    check_tournament(tournament)
    check_player(tournament, player, "player")
    if not isinstance(itself, bool):
        raise BadValue("itself")
    order = told_order(tournament)
    if order is None:
        return None
    # Exactly one turn begins with each signed player.
    return [turn for turn in turns(order) if turn[0] == (player, itself)][0]


def least_ring(tournament):
    """Return the least ring on which there are places for the tournament, or None if it is not circular."""
    order = told_order(tournament)
    return None if order is None else sum(steps(order))


def accepts_order(tournament, value):
    """Return True if the value is a signed order that stands for the tournament, otherwise False."""
    check_tournament(tournament)
    return _is_signed_order(value) and stands_for(value) == tournament


def turns(order):
    """Return the list of the turns of a signed order: the order itself, and then each one an entry further on."""
    row = order + tuple([_opposite(entry) for entry in order])
    return [(row[at:] + row[:at])[:len(order)] for at in range(len(row))]


def steps(order):
    """Return the tuple of the steps of a signed order."""
    closed = (*order, _opposite(order[0]))
    return tuple([2 if _look_alike(closed[at], closed[at + 1]) else 1 for at in range(len(order))])


def _is_signed_order(value):
    if not isinstance(value, tuple) or not 1 <= len(value) <= MOST_PLAYERS:
        return False
    if not all([_is_signed_player(entry, len(value)) for entry in value]):
        return False
    return is_order(tuple([entry[0] for entry in value]), len(value))


def _is_signed_player(value, many):
    if not isinstance(value, tuple) or len(value) != 2:
        return False
    return is_whole(value[0], 0, many - 1) and isinstance(value[1], bool)


def _opposite(entry):
    player, itself = entry
    return player, not itself


def _look_alike(one, other):
    return one[1] == other[1]


def _result(earlier, later):
    """Return the pair of the player who beats and the one who is beaten, by two entries of a signed order."""
    if _look_alike(earlier, later):
        return earlier[0], later[0]
    return later[0], earlier[0]


def _count_behind(tournament, signed, entry):
    """Return how many of the signed players have to come behind this one."""
    # An entry looks like itself and does not beat itself, so it is not counted.
    return len([other for other in signed if (other[0] in tournament[entry[0]]) == _look_alike(entry, other)])
