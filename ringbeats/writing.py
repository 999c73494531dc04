"""Writing the texts of tournaments and of rings."""

from ringbeats.rings import check_places
from ringbeats.tournaments import check_tournament


def tournament_text(tournament):
    """Return the text of the tournament."""
    check_tournament(tournament)
    return " ".join([_row(tournament, player) for player in range(len(tournament))])


def ring_text(ring, places):
    """Return the text of the places on the ring."""
    check_places(ring, places)
    return " ".join([f"{ring}:"] + [f"{place}" for place in places])


def _row(tournament, player):
    """Return the marks that the player has for each one."""
    return "".join([_mark(tournament, player, other) for other in range(len(tournament))])


def _mark(tournament, player, other):
    if player == other:
        return "."
    return "+" if other in tournament[player] else "-"
