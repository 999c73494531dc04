"""Points 52 to 62, with 2, 3, 4 and 8: the ways on a ring, counted and by their indexes."""

import unittest
from itertools import permutations
from math import comb

from cases import (
    BAD, EIGHT_IN_A_ROW, FOUR, ONE, ROW, THREE, TWO, Same, all_tuples, great_cases, great_circular, in_a_row,
    small_cases, some_orders,
)
from plain import (
    all_obstructions, all_places, all_twins, circular_tournaments, renamed_rows, reversed_rows,
    signed_orders_by_tournament, stood_for, tournament_of, ways_by_tournament,
)
from wrong import NO_INTEGERS, NO_PLACES, NO_RINGS, NO_TOURNAMENTS, name_of_refusal
from ringbeats.counting import count_beginning, count_ways, index_of_way, next_way, nth_way
from ringbeats.rings import mirrored
from ringbeats.signed import least_ring, told_order

RINGS = range(1, 32, 2)
BEGINNING_KINDS = [
    None, True, False, 0, "", "0", "01", [], [0], [0, 1], {}, (None,), (0, None), ("0",), (0, "1"), (True,), (False,),
    (0, True), (False, 1), ((0,),), (0, (1,)), ([0],), ((),),
]
NO_BEGINNINGS_OF_THREE_ON_5 = BEGINNING_KINDS + [
    (-1,), (5,), (0, 5), (0, -1), (0, 1, 5), (6,), (10**30,), (0, 10**30), (0, 1, 2, 3), (0, 0, 0, 0), (0,) * 1000,
]


def small_rings():
    """Numbers of players and rings on which all ways are listed."""
    for players, rings in ((1, (1, 3, 5)), (2, (1, 3, 5, 7)), (3, (1, 3, 5, 7, 9)), (4, (3, 5, 7, 9)), (5, (5, 7, 9))):
        for ring in rings:
            yield players, ring


def all_ways():
    """Every tournament of up to four players, and the circular ones of five, with its ways on a ring."""
    for players, ring in small_rings():
        found = ways_by_tournament(players, ring)
        cases = circular_tournaments(5) if players == 5 else [
            tournament for tournament in small_cases(players) if len(tournament) == players]
        for tournament in cases:
            yield tournament, ring, found.get(tournament, [])


def great_ways():
    """Some circular tournaments of up to eight players, with each ring."""
    for tournament in great_circular():
        for ring in RINGS:
            yield tournament, ring


def counted_by_half_places(tournament, ring, beginning=()):
    """The ways that go on with the beginning, counted by where the entries can stand on half a ring, one by one."""
    if not beginning:
        return sum(counted_by_half_places(tournament, ring, (place,)) for place in range(ring))
    counts = {0: 1}
    for player, itself in told_order(tournament)[1:]:
        new = {}
        for half_places in range(1, ring):
            if half_places % 2 == (0 if itself else 1):
                across = 0 if itself else ring
                place = (half_places + 2 * beginning[0] + across) // 2 % ring
                if player >= len(beginning) or beginning[player] == place:
                    new[half_places] = sum(many for before, many in counts.items() if before < half_places)
        counts = new
    return sum(counts.values())


class CountWays(Same):
    def test_as_many_as_are_listed(self):
        for tournament, ring, ways in all_ways():
            self.assertSame(count_ways(tournament, ring), len(ways))

    def test_of_up_to_eight_players_on_every_ring(self):
        for tournament, ring in great_ways():
            self.assertSame(count_ways(tournament, ring), counted_by_half_places(tournament, ring))

    def test_the_number_by_the_twins(self):
        cases = [*small_cases(4), *circular_tournaments(5), *great_circular()]
        for tournament in cases:
            n, twins = len(tournament), len(all_twins(tournament))
            for ring in RINGS:
                expected = 0
                if not all_obstructions(tournament) and ring >= n + twins:
                    self.assertEqual((ring - n - twins) % 2, 0)
                    expected = ring * comb((ring - n - twins) // 2 + n - 1, n - 1)
                self.assertSame(count_ways(tournament, ring), expected)

    def test_none_if_it_is_not_circular(self):
        for tournament in [BAD, FOUR, *great_cases()]:
            if all_obstructions(tournament):
                for ring in RINGS:
                    self.assertSame(count_ways(tournament, ring), 0)

    def test_on_the_least_ring_as_many_as_places_and_below_it_none(self):
        for tournament in [*circular_tournaments(4), *circular_tournaments(5), *great_circular()]:
            ring = least_ring(tournament)
            self.assertSame(count_ways(tournament, ring), ring)
            if ring > 1:
                self.assertSame(count_ways(tournament, ring - 2), 0)
            starts = [nth_way(tournament, ring, index)[0] for index in range(ring)]
            self.assertEqual(starts, list(range(ring)))

    def test_on_a_ring_with_two_places_more(self):
        for tournament in [ONE, TWO, *circular_tournaments(3), *circular_tournaments(4), *great_circular()]:
            n, least = len(tournament), least_ring(tournament)
            for ring in range(least, 30, 2):
                e = (ring - least) // 2
                more = ring * (e + 1) * count_ways(tournament, ring + 2)
                self.assertEqual(more, (ring + 2) * (e + n) * count_ways(tournament, ring))

    def test_of_the_reversed_and_of_the_renamed_tournament(self):
        for tournament in [ROW, THREE, *list(circular_tournaments(4))[::5], *great_circular()]:
            for ring in (least_ring(tournament), 15, 31):
                many = count_ways(tournament, ring)
                self.assertSame(count_ways(reversed_rows(tournament), ring), many)
                for order in some_orders(len(tournament)):
                    self.assertSame(count_ways(renamed_rows(tournament, order), ring), many)

    def test_examples_and_edges(self):
        self.assertSame([count_ways(TWO, ring) for ring in (1, 3, 5)], [0, 3, 10])
        self.assertSame([count_ways(ROW, ring) for ring in (1, 3, 5, 7)], [0, 0, 5, 21])
        self.assertSame([count_ways(THREE, ring) for ring in (1, 3, 5)], [0, 3, 15])
        self.assertSame([count_ways(ONE, ring) for ring in RINGS], list(RINGS))
        self.assertSame(count_ways(BAD, 31), 0)
        self.assertSame([count_ways(EIGHT_IN_A_ROW, ring) for ring in (13, 15, 17, 31)], [0, 15, 136, 31 * comb(15, 7)])
        eight = stood_for(tuple((player, player % 2 == 0) for player in range(8)))
        self.assertSame([count_ways(eight, ring) for ring in (7, 9, 31)], [0, 9, 31 * comb(18, 7)])


class CountBeginning(Same):
    def test_as_many_as_are_listed(self):
        for tournament, ring, ways in all_ways():
            players = len(tournament)
            if ring <= (5 if players >= 4 else 7) and players <= 4:
                for beginning in all_tuples(range(ring), players):
                    expected = sum(way[:len(beginning)] == beginning for way in ways)
                    self.assertSame(count_beginning(tournament, ring, beginning), expected)

    def test_every_beginning_of_a_way(self):
        for tournament, ring, ways in all_ways():
            counts = {}
            for way in ways:
                for many in range(len(way) + 1):
                    counts[way[:many]] = counts.get(way[:many], 0) + 1
            for beginning, expected in list(counts.items())[::7]:
                self.assertSame(count_beginning(tournament, ring, beginning), expected)

    def test_of_up_to_eight_players(self):
        for tournament in great_circular():
            for ring in (least_ring(tournament), 15, 31):
                many = count_ways(tournament, ring)
                self.assertSame(count_beginning(tournament, ring, ()), many)
                for index in {0, many // 3, many - 1} if many else ():
                    way = nth_way(tournament, ring, index)
                    for known in range(len(way) + 1):
                        for place in (way[known - 1], (way[known - 1] + 1) % ring, ring - 1):
                            beginning = (way[:known - 1] + (place,)) if known else ()
                            self.assertSame(count_beginning(tournament, ring, beginning),
                                            counted_by_half_places(tournament, ring, beginning))

    def test_each_player_has_each_place_equally_often(self):
        for tournament, ring, ways in all_ways():
            for player in range(len(tournament)):
                counts = [sum(way[player] == place for way in ways) for place in range(ring)]
                self.assertEqual(counts, [len(ways) // ring] * ring)
            for place in range(ring):
                self.assertSame(count_beginning(tournament, ring, (place,)), len(ways) // ring)

    def test_one_place_more(self):
        for tournament in [ROW, THREE, BAD, *great_circular()]:
            for ring in (9, 31):
                for beginning in ((), (0,), (ring - 1,), (3, 4), (0, ring // 2), (5, 5)):
                    longer = [count_beginning(tournament, ring, (*beginning, place)) for place in range(ring)]
                    self.assertEqual(sum(longer), count_beginning(tournament, ring, beginning))

    def test_the_same_place_twice(self):
        for tournament in [TWO, ROW, THREE, *circular_tournaments(4), *great_circular()]:
            for ring in (9, 31):
                for beginning in ((0, 0), (4, 4), (0, 1, 0), (1, 0, 0), (0, 1, 2, 1)):
                    if len(beginning) <= len(tournament):
                        self.assertSame(count_beginning(tournament, ring, beginning), 0)

    def test_all_players(self):
        for tournament in circular_tournaments(4):
            for ring in (5, 7):
                for places in all_places(ring, 4):
                    expected = int(tournament_of(ring, places) == tournament)
                    self.assertSame(count_beginning(tournament, ring, places), expected)

    def test_examples_and_edges(self):
        self.assertSame(count_beginning(THREE, 5, (0,)), 3)
        self.assertSame(count_beginning(THREE, 5, (0, 2)), 2)
        self.assertSame(count_beginning(THREE, 5, (0, 3)), 0)
        self.assertSame(count_beginning(THREE, 5, ()), 15)
        self.assertSame(count_beginning(ONE, 1, ()), 1)
        self.assertSame(count_beginning(ONE, 1, (0,)), 1)
        self.assertSame(count_beginning(ONE, 31, (30,)), 1)
        self.assertSame(count_beginning(TWO, 1, (0, 0)), 0)
        self.assertSame(count_beginning(ROW, 3, ()), 0)
        self.assertSame(count_beginning(BAD, 31, ()), 0)
        self.assertSame(count_beginning(BAD, 31, (0, 1, 2, 3)), 0)
        self.assertSame(count_beginning(EIGHT_IN_A_ROW, 31, (30,)), comb(15, 7))
        self.assertSame(count_beginning(EIGHT_IN_A_ROW, 31, (30, *range(7))), 1)
        self.assertSame(count_beginning(EIGHT_IN_A_ROW, 31, (0, 10)), 0)
        self.assertSame(count_beginning(EIGHT_IN_A_ROW, 31, (0, 9)), 1)
        self.assertSame(count_beginning(EIGHT_IN_A_ROW, 31, (0, 8)), comb(7, 6))


class ByIndex(Same):
    def test_the_ways_in_their_order(self):
        for tournament, ring, ways in all_ways():
            step = 1 if len(tournament) < 4 else 5
            for index in [*range(0, len(ways), step), *range(len(ways))[-1:]]:
                way = ways[index]
                self.assertSame(nth_way(tournament, ring, index), way)
                self.assertSame(index_of_way(tournament, ring, way), index)
                following = ways[index + 1] if index + 1 < len(ways) else None
                self.assertSame(next_way(tournament, ring, way), following)

    def test_of_up_to_eight_players(self):
        for tournament in great_circular():
            for ring in (least_ring(tournament), 17, 31):
                many = count_ways(tournament, ring)
                before = None
                for index in sorted({0, 1, many // 2, many // 3, many // 3 + 1, many - 2, many - 1}):
                    if 0 <= index < many:
                        way = nth_way(tournament, ring, index)
                        self.assertEqual(tournament_of(ring, way), tournament)
                        self.assertTrue(before is None or before < way)
                        self.assertSame(index_of_way(tournament, ring, way), index)
                        following = nth_way(tournament, ring, index + 1) if index + 1 < many else None
                        self.assertSame(next_way(tournament, ring, way), following)
                        before = way

    def test_one_way_after_another(self):
        for tournament, ring in ((ROW, 9), (THREE, 7), (in_a_row((2, 0, 1)), 7), (ONE, 31), (EIGHT_IN_A_ROW, 17)):
            ways, way = [], nth_way(tournament, ring, 0)
            while way is not None:
                ways.append(way)
                way = next_way(tournament, ring, way)
            self.assertEqual(len(ways), count_ways(tournament, ring))
            self.assertEqual(ways, sorted(set(ways)))
            self.assertTrue(all(tournament_of(ring, way) == tournament for way in ways))

    def test_mirrored_ways_are_those_of_the_reversed_tournament(self):
        for tournament, ring, ways in all_ways():
            for way in ways[::11]:
                self.assertIsNotNone(index_of_way(reversed_rows(tournament), ring, mirrored(ring, way)))
        for places in all_places(5, 3):
            back = tournament_of(5, mirrored(5, places))
            for tournament in small_cases(3):
                if len(tournament) == 3:
                    is_way = index_of_way(tournament, 5, places) is not None
                    self.assertEqual(is_way, back == reversed_rows(tournament))

    def test_what_is_not_a_way_has_no_index(self):
        for tournament in small_cases(3):
            for ring in (1, 3, 5):
                for value in all_tuples(range(-1, ring + 1), 3):
                    right = len(set(value)) == len(value) == len(tournament) and all(0 <= p < ring for p in value)
                    is_way = right and tournament_of(ring, value) == tournament
                    self.assertEqual(index_of_way(tournament, ring, value) is not None, is_way)
        for tournament in small_cases(4):
            for places in list(all_places(7, 4))[::7]:
                is_way = tournament_of(7, places) == tournament
                self.assertEqual(index_of_way(tournament, 7, places) is not None, is_way)

    def test_every_value_has_an_index_or_none(self):
        for tournament in (ONE, TWO, ROW, THREE, BAD):
            for value in [*NO_PLACES, [0, 2, 4], ("places", 5, (0, 2, 4)), ((0, 2, 4),), ((), ()), {0: 1}]:
                self.assertSame(index_of_way(tournament, 5, value), None)
        self.assertSame(index_of_way(ONE, 5, (0,)), 0)
        self.assertSame(index_of_way(ONE, 5, (False,)), None)
        self.assertSame(index_of_way(TWO, 5, (0, 1)), 0)
        self.assertSame(index_of_way(TWO, 5, (0, True)), None)
        self.assertSame(index_of_way(EIGHT_IN_A_ROW, 31, tuple(range(9))), None)
        self.assertSame(index_of_way(EIGHT_IN_A_ROW, 31, tuple(range(7))), None)

    def test_examples_and_edges(self):
        self.assertSame([nth_way(TWO, 3, index) for index in range(3)], [(0, 1), (1, 2), (2, 0)])
        self.assertSame(nth_way(TWO, 5, 6), (3, 0))
        self.assertSame(index_of_way(TWO, 5, (4, 0)), 8)
        self.assertSame(nth_way(THREE, 5, 4), (1, 3, 0))
        self.assertSame(next_way(TWO, 3, (1, 2)), (2, 0))
        self.assertSame(next_way(TWO, 3, (2, 0)), None)
        self.assertSame(index_of_way(TWO, 5, (0, 3)), None)
        self.assertSame(nth_way(ONE, 1, 0), (0,))
        self.assertSame(index_of_way(ONE, 1, (0,)), 0)
        self.assertSame(next_way(ONE, 1, (0,)), None)
        self.assertSame(nth_way(ONE, 31, 30), (30,))
        self.assertSame(next_way(ONE, 31, (29,)), (30,))
        self.assertSame(nth_way(EIGHT_IN_A_ROW, 31, 0), tuple(range(8)))
        self.assertSame(nth_way(EIGHT_IN_A_ROW, 31, 31 * comb(15, 7) - 1), (30, *range(8, 15)))


class Refusals(unittest.TestCase):
    """Point 61, with point 8."""

    def calls(self, third):
        return [(count_beginning, third), (nth_way, third), (index_of_way, third), (next_way, third)]

    def test_what_is_no_tournament_alone_and_with_anything_behind_it(self):
        for value in NO_TOURNAMENTS:
            for ring in (3, 5, 4, 33, None, True, 0):
                self.assertEqual(name_of_refusal(count_ways, value, ring), "tournament", (value, ring))
                for third in [(), (0,), 0, -1, None, True, [0], (9, 9)]:
                    for call, last in self.calls(third):
                        self.assertEqual(name_of_refusal(call, value, ring, last), "tournament", (call, value, ring))

    def test_what_is_no_ring_alone_and_with_anything_behind_it(self):
        for tournament in (ONE, THREE, BAD):
            for ring in NO_RINGS:
                self.assertEqual(name_of_refusal(count_ways, tournament, ring), "ring", ring)
                for third in [(), (0,), (0, 2, 4), 0, -1, None, True, [0], (9, 9)]:
                    for call, last in self.calls(third):
                        self.assertEqual(name_of_refusal(call, tournament, ring, last), "ring", (call, ring, last))

    def test_what_is_no_beginning(self):
        for tournament in (ROW, THREE):
            for beginning in NO_BEGINNINGS_OF_THREE_ON_5:
                self.assertEqual(name_of_refusal(count_beginning, tournament, 5, beginning), "beginning", beginning)
        # Also where there are no ways at all.
        for beginning in [*BEGINNING_KINDS, (3,), (0, 1, 2, 3, 0), (-1,)]:
            self.assertEqual(name_of_refusal(count_beginning, BAD, 3, beginning), "beginning", beginning)
        for beginning in [*BEGINNING_KINDS, (1,), (0, 0), (-1,)]:
            self.assertEqual(name_of_refusal(count_beginning, ONE, 1, beginning), "beginning", beginning)
        for beginning in [(31,), (0,) * 9, tuple(range(9)), (0, 1, 2, 3, 4, 5, 6, 31)]:
            self.assertEqual(name_of_refusal(count_beginning, EIGHT_IN_A_ROW, 31, beginning), "beginning", beginning)

    def test_what_is_no_index(self):
        for tournament, ring in ((ONE, 1), (TWO, 3), (ROW, 7), (THREE, 5), (EIGHT_IN_A_ROW, 31)):
            many = count_ways(tournament, ring)
            for index in NO_INTEGERS + [-1, -many, many, many + 1, 10**30]:
                self.assertEqual(name_of_refusal(nth_way, tournament, ring, index), "index", (tournament, index))
            for index in (0, many - 1):
                self.assertIsInstance(nth_way(tournament, ring, index), tuple)

    def test_no_index_where_there_are_no_ways(self):
        for tournament, ring in ((BAD, 31), (FOUR, 31), (TWO, 1), (ROW, 3), (EIGHT_IN_A_ROW, 13)):
            for index in [0, 1, -1, *NO_INTEGERS]:
                self.assertEqual(name_of_refusal(nth_way, tournament, ring, index), "index", (tournament, index))

    def test_what_is_not_a_way(self):
        for tournament in (ONE, TWO, ROW, THREE):
            for places in NO_PLACES:
                self.assertEqual(name_of_refusal(next_way, tournament, 5, places), "places", places)
        for tournament in (TWO, ROW, THREE, BAD):
            for many in (1, 2, 3, 4):
                for places in permutations(range(5), many):
                    if tournament_of(5, places) != tournament:
                        self.assertEqual(name_of_refusal(next_way, tournament, 5, places), "places", places)
                    else:
                        self.assertNotEqual(name_of_refusal(next_way, tournament, 5, places), "places", places)
        self.assertEqual(name_of_refusal(next_way, EIGHT_IN_A_ROW, 31, tuple(range(9))), "places")
        self.assertEqual(name_of_refusal(next_way, EIGHT_IN_A_ROW, 13, tuple(range(8))), "places")
        self.assertEqual(name_of_refusal(next_way, ONE, 1, (False,)), "places")


class NothingIsKept(unittest.TestCase):
    """Point 2."""

    def test_equal_calls_have_equal_results(self):
        for _ in range(2):
            self.assertEqual([count_ways(ROW, 5), count_ways(ROW, 7), count_ways(THREE, 5)], [5, 21, 15])
            self.assertEqual([nth_way(TWO, 5, 6), nth_way(TWO, 3, 2)], [(3, 0), (2, 0)])
            self.assertEqual([nth_way(THREE, 5, 4), nth_way(ROW, 5, 4)], [(1, 3, 0), (4, 0, 1)])

    def test_judged_and_refused_lists_stay_as_they_were(self):
        places = [0, 2, 4]
        index_of_way(THREE, 5, places)
        name_of_refusal(next_way, THREE, 5, places)
        name_of_refusal(count_beginning, THREE, 5, places)
        self.assertEqual(places, [0, 2, 4])


class HalfPlaces(unittest.TestCase):
    """The count that these tests compare with is the one of the words."""

    def test_as_many_as_are_listed(self):
        for players, ring in ((3, 5), (3, 7), (4, 7)):
            for tournament in signed_orders_by_tournament(players):
                ways = ways_by_tournament(players, ring).get(tournament, [])
                self.assertEqual(counted_by_half_places(tournament, ring), len(ways))
                for beginning in ((0,), (1, 2), (2, 0)):
                    expected = sum(way[:len(beginning)] == beginning for way in ways)
                    self.assertEqual(counted_by_half_places(tournament, ring, beginning), expected)


if __name__ == "__main__":
    unittest.main()
