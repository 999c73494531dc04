"""Whether a tournament is circular: places for it on the least ring, or an obstruction."""

from ringbeats.rings import are_places, beaten, is_ring
from ringbeats.signed import least_ring, steps, told_order
from ringbeats.tournaments import accepts_obstruction, check_tournament, obstruction
from ringbeats.transitive import restricted


def is_circular(tournament):
    """Return True if the tournament is circular, otherwise False."""
    return told_order(tournament) is not None


def least_places(tournament):
    """Return the pair of the least ring and the places on it with player 0 at 0, or None if there are none."""
    order = told_order(tournament)
    if order is None:
        return None
    ring = least_ring(tournament)
    places = [0] * len(order)
    half_places = 0
    for (player, itself), step in zip(order, steps(order)):
        # An opposite stands half a ring away from its player: as many half places as the ring has places.
        own = half_places if itself else half_places + ring
        places[player] = own // 2 % ring
        half_places += step
    return ring, tuple(places)


def circle_evidence(tournament):
    """Return the first obstruction, or the places on the least ring with player 0 at 0, as evidence."""
    four = obstruction(tournament)
    if four is not None:
        return "obstruction", four
    ring, places = least_places(tournament)
    return "places", ring, places


def accepts_circle(tournament, value):
    """Return True if the value is evidence about the tournament, of either word, otherwise False."""
    check_tournament(tournament)
    if not isinstance(value, tuple):
        return False
    if len(value) == 3 and value[0] == "places":
        return are_places_for(tournament, value[1], value[2])
    return len(value) == 2 and value[0] == "obstruction" and accepts_obstruction(tournament, value[1])


def part(tournament, players):
    """Return the tournament of these players alone, numbered from 0 in their sequence."""
    return restricted(tournament, players)


def are_places_for(tournament, ring, value):
    """Return True if the value is places on the ring by which the tournament comes; the ring may be any value."""
    return is_ring(ring) and are_places(ring, value) and beaten(ring, value) == tournament
