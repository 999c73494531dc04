"""Walks from player to player, each of whom beats the next one."""

from ringbeats.kinds import GREATEST_LEVEL, are_whole, is_ascending
from ringbeats.tournaments import check_player, check_tournament

MOST_IN_A_WALK = 30


def is_walk(tournament, value):
    """Return True if the value is a walk, otherwise False."""
    check_tournament(tournament)
    if not isinstance(value, tuple) or not 1 <= len(value) <= MOST_IN_A_WALK:
        return False
    if not are_whole(value, len(value), 0, len(tournament) - 1):
        return False
    return all([value[at + 1] in tournament[value[at]] for at in range(len(value) - 1)])


def shortest_walk(tournament, one, other):
    """Return the shortest walk from the one player to the other, or None if there is none."""
    _check_two(tournament, one, other)
    return _walks_from(tournament, one).get(other)


def walk_evidence(tournament, one, other):
    """Return the shortest walk from the one player to the other with levels, or a closed part, as evidence."""
    _check_two(tournament, one, other)
    found = _walks_from(tournament, one)
    if other not in found:
        return "none", tuple(sorted(found))
    # Nobody who is reached beats anyone who is not, so these may have any number that is great enough.
    levels = [len(found[player]) - 1 if player in found else len(tournament) for player in range(len(tournament))]
    return "walk", found[other], tuple(levels)


def accepts_shortest(tournament, one, other, value):
    """Return True if the value is evidence of the shortest walk, of either word, otherwise False."""
    _check_two(tournament, one, other)
    if not isinstance(value, tuple):
        return False
    if len(value) == 3 and value[0] == "walk":
        return _is_as_short(tournament, one, other, value[1], value[2])
    return len(value) == 2 and value[0] == "none" and _keeps_apart(tournament, one, other, value[1])


def _check_two(tournament, one, other):
    check_tournament(tournament)
    check_player(tournament, one, "one")
    check_player(tournament, other, "other")


def _walks_from(tournament, one):
    """Return the shortest walk from the one to each player whom a walk leads to, in a dict by this player."""
    found = {one: (one,)}
    newest = [(one,)]
    while newest:
        longer = []
        # The walks of one length come in their order, so the first that leads to a player is the first of all.
        for walk in newest:
            for player in tournament[walk[-1]]:
                if player not in found:
                    found[player] = (*walk, player)
                    longer.append(found[player])
        newest = longer
    return found


def _is_as_short(tournament, one, other, walk, levels):
    """Return True if the walk leads from the one to the other, and the levels tell that it has the fewest steps."""
    if not is_walk(tournament, walk) or walk[0] != one or walk[-1] != other:
        return False
    return _are_levels(tournament, one, levels) and levels[other] == len(walk) - 1


def _are_levels(tournament, one, value):
    if not are_whole(value, len(tournament), 0, GREATEST_LEVEL) or value[one] != 0:
        return False
    for player in range(len(tournament)):
        if not all([value[beaten] <= value[player] + 1 for beaten in tournament[player]]):
            return False
    return True


def _keeps_apart(tournament, one, other, value):
    """Return True if the value is a closed part that has the one player, and not the other."""
    if not is_ascending(value, len(tournament)) or one not in value or other in value:
        return False
    return all([beaten in value for player in value for beaten in tournament[player]])
