"""Rings, places on them, and the tournaments of the places."""

from ringbeats.errors import BadValue, TooLarge
from ringbeats.kinds import MOST_PLAYERS, is_whole

GREATEST_RING = 31


def is_ring(value):
    """Return True if the value is a ring, otherwise False."""
    return is_whole(value, 1, GREATEST_RING) and value % 2 == 1


def are_places(ring, value):
    """Return True if the value is places of 1 to 8 players on the ring, otherwise False."""
    if not isinstance(value, tuple) or not 1 <= len(value) <= MOST_PLAYERS:
        return False
    if not all([is_whole(place, 0, ring - 1) for place in value]):
        return False
    return len(set(value)) == len(value)


def check_places(ring, places):
    """Raise BadValue if the ring is not a ring, or the places are not places on it."""
    if not is_ring(ring):
        raise BadValue("ring")
    if not are_places(ring, places):
        raise BadValue("places")


def beaten(ring, places):
    """Return the tournament of the places."""
    check_places(ring, places)
    return tuple([_beaten_from(ring, places, start) for start in places])


def turned(ring, places, many):
    """Return the places, each of them so many places ahead."""
    check_places(ring, places)
    if not is_whole(many, 0, ring - 1):
        raise BadValue("many")
    return tuple([(place + many) % ring for place in places])


def mirrored(ring, places):
    """Return the mirrored places: the ring less each place, and 0 stays."""
    check_places(ring, places)
    return tuple([(ring - place) % ring for place in places])


def around(ring, places):
    """Return the order around: the players as they come ahead from player 0 on."""
    check_places(ring, places)
    return tuple(sorted(range(len(places)), key=lambda player: _steps_ahead(ring, places[0], places[player])))


def widened(ring, places, at):
    """Return the ring widened at this place, and the places on it."""
    check_places(ring, places)
    if not is_whole(at, 0, ring - 1):
        raise BadValue("at")
    wider = ring + 2
    if wider > GREATEST_RING:
        raise TooLarge("ring")
    opposite = (at + (ring - 1) // 2) % ring
    return wider, tuple([_moved(place, at, opposite) for place in places])


def scaled(ring, places, factor):
    """Return the ring and the places, multiplied by the factor."""
    check_places(ring, places)
    # A factor has the bounds of a ring: it is an odd integer from 1 to 31.
    if not is_ring(factor):
        raise BadValue("factor")
    if ring * factor > GREATEST_RING:
        raise TooLarge("ring")
    return ring * factor, tuple([place * factor for place in places])


def _beaten_from(ring, places, start):
    """Return the ascending tuple of the players who stand less than half the ring ahead of the start."""
    half = (ring - 1) // 2
    return tuple([player for player in range(len(places)) if 1 <= _steps_ahead(ring, start, places[player]) <= half])


def _steps_ahead(ring, start, end):
    return (end - start) % ring


def _moved(place, at, opposite):
    """Return the number that a place has when a new one stands directly ahead of each of the other two."""
    return place + len([before for before in (at, opposite) if before < place])
