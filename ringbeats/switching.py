"""Tournaments switched by a set of players, and the ways from one tournament to another."""

from ringbeats.errors import BadValue, NotPossible
from ringbeats.kinds import is_ascending, is_order
from ringbeats.signed import told_order, turns
from ringbeats.tournaments import check_tournament, is_tournament
from ringbeats.transitive import renamed


def switched(tournament, players):
    """Return the tournament switched by the set of players."""
    check_tournament(tournament)
    if not is_ascending(players, len(tournament)):
        raise BadValue("players")
    return tuple([_switched_row(tournament, players, player) for player in range(len(tournament))])


def straightening(tournament):
    """Return the ascending list of the straightening sets."""
    order = told_order(tournament)
    if order is None:
        return []
    # Switched by those who stand as opposites in a turn, the tournament has the players of the turn as its order.
    return sorted([_opposites(turn) for turn in turns(order)])


def ways(tournament, other):
    """Return the ascending list of the ways from the tournament to the other one."""
    _check_both(tournament, other)
    order, other_order = told_order(tournament), told_order(other)
    if order is None or other_order is None:
        raise NotPossible("circular")
    return sorted([_way(order, turn) for turn in turns(other_order)])


def renamings(tournament, other):
    """Return the ascending list of the orders of the renamings from the tournament to the other one."""
    return [order for order, players in ways(tournament, other) if len(players) == 0]


def accepts_way(tournament, other, value):
    """Return True if the value is a way from the tournament to the other one, otherwise False."""
    _check_both(tournament, other)
    if not isinstance(value, tuple) or len(value) != 2:
        return False
    order, players = value
    if not is_order(order, len(tournament)) or not is_ascending(players, len(tournament)):
        return False
    return renamed(switched(tournament, players), order) == other


def close(tournament):
    """Return the ascending list of the pairs of close players, the lesser player first."""
    check_tournament(tournament)
    players = len(tournament)
    return [
        (one, other)
        for one in range(players)
        for other in range(one + 1, players)
        if _are_close(tournament, one, other)
    ]


def _check_both(tournament, other):
    check_tournament(tournament)
    if not is_tournament(other) or len(other) != len(tournament):
        raise BadValue("other")


def _switched_row(tournament, players, one):
    """Return whom the one beats if the tournament is switched by the players."""
    row = tournament[one]
    # The one is on its own side and does not beat itself, so it does not come into the row.
    return tuple([
        other for other in range(len(tournament)) if (other in row) == ((one in players) == (other in players))
    ])


def _opposites(order):
    """Return the ascending tuple of the players who stand as opposites in the signed order."""
    return tuple(sorted([player for player, itself in order if not itself]))


def _way(order, turn):
    """Return the way by which each entry of the signed order becomes the one at the same place of the turn."""
    new = [0] * len(order)
    players = []
    for before, after in zip(order, turn):
        new[before[0]] = after[0]
        if before[1] != after[1]:
            players.append(before[0])
    return tuple(new), tuple(sorted(players))


def _are_close(tournament, one, other):
    """Return True if all further players beat both or neither of the two, or each of them exactly one."""
    further = [row for player, row in enumerate(tournament) if player not in (one, other)]
    split = len([row for row in further if (one in row) != (other in row)])
    return split in (0, len(further))
