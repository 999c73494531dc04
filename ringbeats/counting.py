"""The ways of a tournament on a ring: their number, and each of them by its index."""

from math import comb

from ringbeats.circular import are_places_for
from ringbeats.errors import BadValue
from ringbeats.kinds import are_whole, is_whole
from ringbeats.rings import is_ring
from ringbeats.signed import steps, told_order
from ringbeats.tournaments import check_tournament


def count_ways(tournament, ring):
    """Return the number of the ways of the tournament on the ring."""
    _check_ring(tournament, ring)
    return _count(told_order(tournament), ring, ())


def count_beginning(tournament, ring, beginning):
    """Return the number of the ways that go on with the beginning."""
    _check_ring(tournament, ring)
    if not _is_beginning(beginning, len(tournament), ring):
        raise BadValue("beginning")
    return _count(told_order(tournament), ring, beginning)


def nth_way(tournament, ring, index):
    """Return the way with the index."""
    many = count_ways(tournament, ring)
    if not is_whole(index, 0, many - 1):
        raise BadValue("index")
    order = told_order(tournament)
    way, left = (), index
    for _ in tournament:
        place, left = _next_place(order, ring, way, left)
        way = (*way, place)
    return way


def index_of_way(tournament, ring, value):
    """Return the index of the way, or None if the value is not a way."""
    _check_ring(tournament, ring)
    if not are_places_for(tournament, ring, value):
        return None
    order = told_order(tournament)
    # Before a way stand those that go on with a beginning of it and then a lesser place.
    lesser = [(*value[:at], place) for at in range(len(value)) for place in range(value[at])]
    return sum([_count(order, ring, beginning) for beginning in lesser])


def next_way(tournament, ring, places):
    """Return the way with the next index, or None if this is the last way."""
    index = index_of_way(tournament, ring, places)
    if index is None:
        raise BadValue("places")
    if index + 1 == count_ways(tournament, ring):
        return None
    return nth_way(tournament, ring, index + 1)


def _check_ring(tournament, ring):
    check_tournament(tournament)
    if not is_ring(ring):
        raise BadValue("ring")


def _is_beginning(value, players, ring):
    return isinstance(value, tuple) and len(value) <= players and are_whole(value, len(value), 0, ring - 1)


def _next_place(order, ring, beginning, index):
    """Return the next place of the way with the index among those that go on so, and its index with this place."""
    place, left = 0, index
    many = _count(order, ring, (*beginning, place))
    while left >= many:
        left -= many
        place += 1
        many = _count(order, ring, (*beginning, place))
    return place, left


def _count(order, ring, beginning):
    """Return how many ways go on with the beginning, by the told order, which is None if there are no ways."""
    if order is None:
        return 0
    if len(beginning) == 0:
        # Player 0 can have each place, in equally many ways.
        return ring * _count(order, ring, (0,))
    # Half the ring, from player 0 up to its opposite, has as many half places as the ring has places.
    stops = [_half_places(entry, ring, beginning) for entry in order] + [ring]
    told = steps(order)
    ways, last = 1, 0
    for at in range(1, len(stops)):
        if stops[at] is not None:
            ways = ways * _count_stretch(stops[at] - stops[last], told[last:at])
            last = at
    return ways


def _half_places(entry, ring, beginning):
    """Return how many half places ahead of player 0 the entry stands, or None if the beginning does not tell it."""
    player, itself = entry
    if player >= len(beginning):
        return None
    # An opposite stands half a ring away from its player.
    ahead = 2 * (beginning[player] - beginning[0])
    return (ahead if itself else ahead + ring) % (2 * ring)


def _count_stretch(length, told):
    """Return in how many ways steps, each as told or an even number greater, make up so many half places."""
    spare = length - sum(told)
    if spare < 0:
        return 0
    return comb(spare // 2 + len(told) - 1, len(told) - 1)
