"""The tournaments that the tests look at, and how results are compared."""

import unittest
from itertools import product

from plain import (
    all_tournaments, nth_signed_order, renamed_rows, residues, reversed_rows, stood_for, tournament_of,
    with_loser, with_winner,
)

ONE = ((),)
TWO = ((1,), ())
THREE = ((1,), (2,), (0,))
ROW = ((1, 2), (2,), ())
FOUR = ((1,), (2,), (0,), (0, 1, 2))
BAD = ((1, 2, 3), (2,), (3,), (1,))
WALKS = ((1,), (2,), (0, 3), (0, 1))
EIGHT_IN_A_ROW = tuple(tuple(range(player + 1, 8)) for player in range(8))


def in_a_row(order):
    """The transitive tournament with this order."""
    return renamed_rows(tuple(tuple(range(player + 1, len(order))) for player in range(len(order))), order)


def great_cases():
    """Some tournaments of six, seven and eight players."""
    six, seven = residues(6), residues(7)
    for tournament in (six, seven, with_winner(six), with_loser(six), with_winner(seven), with_loser(seven)):
        yield tournament
        yield reversed_rows(tournament)
    yield with_winner(with_loser(six))
    yield EIGHT_IN_A_ROW
    yield reversed_rows(EIGHT_IN_A_ROW)
    for ring in (9, 15, 31):
        yield tournament_of(ring, tuple(dict.fromkeys(place * 4 % ring for place in range(ring)))[:8])


def small_cases(most):
    """Every tournament of up to so many players."""
    for players in range(1, most + 1):
        yield from all_tournaments(players)


def all_cases():
    yield from small_cases(5)
    yield from great_cases()


def great_signed_orders():
    """Some signed orders of five to eight players that begin with player 0 itself."""
    for players in (5, 6, 7, 8):
        for number in range(12):
            yield nth_signed_order(players, number * 100003)
    yield tuple((player, True) for player in range(8))
    yield tuple((player, player % 2 == 0) for player in range(7))
    yield tuple((player, player % 2 == 0) for player in range(8))


def great_circular():
    """Some circular tournaments of five to eight players."""
    for order in great_signed_orders():
        yield stood_for(order)


def some_orders(players):
    """Some orders of so many players: as they are, the other way round, and others."""
    if players == 1:
        return [(0,)]
    shifts = [tuple((player + by) % players for player in range(players)) for by in (0, 1, players - 1)]
    crossed = tuple(range(0, players, 2)) + tuple(range(1, players, 2))
    return [*shifts, tuple(range(players))[::-1], crossed, (1, 0, *range(2, players))]


def changed(value):
    """Values of every kind in the place of this one, and this one with each part of it changed."""
    yield from (None, True, False, 0, 1, -1, 2, 100, 101, "", "places", (), [], (0,), [0], ((),))
    if isinstance(value, bool):
        yield from (not value, int(value), str(value), (value,))
    elif isinstance(value, int):
        yield from (value + 1, value - 1, -value, bool(value), str(value), (value,), 10**30)
    elif isinstance(value, str):
        yield from (value + " ", value.upper(), value.title(), value[:-1], tuple(value), (value,))
    elif isinstance(value, tuple):
        yield from changed_tuples(value)


def changed_tuples(value):
    yield from (list(value), value[::-1], value + (0,), value + (None,), value + value, (value,), (None,) + value)
    for at, item in enumerate(value):
        yield value[:at] + value[at + 1:]
        yield value[:at + 1] + value[at:]
        yield value[:at] + value[at + 1:at + 2] + (item,) + value[at + 2:]
        for other in changed(item):
            yield value[:at] + (other,) + value[at + 1:]


def is_integer(value):
    """Whether the value is an integer, and neither True nor False."""
    return type(value) is int


def are_integers(value, many, allowed):
    """Whether the value is a tuple of so many of the allowed integers."""
    return type(value) is tuple and len(value) == many and all(is_integer(item) and item in allowed for item in value)


def exactly(value, allowed):
    """Whether the value is one of the allowed ones, and of the same kinds throughout."""
    return repr(value) in [repr(item) for item in allowed]


def all_tuples(items, most):
    """Every tuple of up to so many of the items."""
    for many in range(most + 1):
        yield from product(items, repeat=many)


class Same(unittest.TestCase):
    def assertSame(self, value, expected):
        """Equal, and of the same kinds throughout: True is not 1, and a list is not a tuple."""
        self.assertEqual(repr(value), repr(expected))
