"""Points 6, 9 to 18, with 3, 4 and 8: rings and places."""

import unittest

from cases import Same
from plain import all_places, reversed_rows, steps_ahead, tournament_of
from wrong import NO_FACTORS, NO_INTEGERS, NO_PLACES, NO_RINGS, name_of_refusal
from ringbeats.errors import RingError, TooLarge
from ringbeats.rings import are_places, around, beaten, is_ring, mirrored, scaled, turned, widened
from ringbeats.tournaments import is_tournament

RINGS = list(range(1, 32, 2))
EIGHT = (30, 0, 15, 16, 14, 1, 29, 7)


def small_cases():
    """Every places of up to four players on the rings up to 7, and of three on the ring 9."""
    for ring in (1, 3, 5, 7):
        for players in range(1, min(ring, 4) + 1):
            for places in all_places(ring, players):
                yield ring, places
    for places in all_places(9, 3):
        yield 9, places


def great_cases():
    """Some places of eight players, or of all that have room, on every ring."""
    for ring in RINGS:
        players = min(ring, 8)
        yield ring, tuple(range(players))
        yield ring, tuple(range(ring - 1, ring - 1 - players, -1))
        yield ring, tuple(dict.fromkeys(place * 7 % ring for place in range(ring)))[:players]
    yield 31, EIGHT


def all_cases():
    yield from small_cases()
    yield from great_cases()


class IsRing(Same):
    def test_rings_are_the_odd_integers_from_1_to_31(self):
        self.assertEqual([value for value in range(-40, 80) if is_ring(value)], RINGS)

    def test_every_value_is_valid(self):
        for value in NO_RINGS:
            self.assertSame(is_ring(value), False)
        for value in RINGS:
            self.assertSame(is_ring(value), True)


class ArePlaces(Same):
    def test_places_on_every_ring(self):
        for ring, places in all_cases():
            self.assertSame(are_places(ring, places), True)

    def test_a_place_at_0_and_at_the_end_of_the_ring(self):
        for ring in RINGS:
            self.assertSame(are_places(ring, (0,)), True)
            self.assertSame(are_places(ring, (ring - 1,)), True)
            self.assertSame(are_places(ring, (-1,)), False)
            self.assertSame(are_places(ring, (ring,)), False)

    def test_from_one_to_eight_players(self):
        for players in range(12):
            self.assertSame(are_places(31, tuple(range(players))), 1 <= players <= 8)

    def test_no_more_players_than_places(self):
        self.assertSame(are_places(1, (0,)), True)
        self.assertSame(are_places(1, (0, 0)), False)
        self.assertSame(are_places(3, (0, 1, 2)), True)
        self.assertSame(are_places(3, (0, 1, 2, 0)), False)

    def test_wrong_values(self):
        for value in NO_PLACES:
            self.assertSame(are_places(5, value), False)

    def test_the_ring_is_not_checked(self):
        self.assertSame(are_places(4, (0, 3)), True)
        self.assertSame(are_places(4, (0, 4)), False)
        self.assertSame(are_places(33, (32, 0)), True)
        self.assertSame(are_places(33, (33, 0)), False)
        self.assertSame(are_places(0, (0,)), False)
        self.assertSame(are_places(32, None), False)


class Beaten(Same):
    def test_whom_one_beats_is_less_than_half_the_ring_ahead(self):
        for ring, places in all_cases():
            self.assertSame(beaten(ring, places), tournament_of(ring, places))

    def test_half_a_ring_exactly(self):
        for ring in RINGS[1:]:
            half = (ring - 1) // 2
            self.assertSame(beaten(ring, (0, half)), ((1,), ()))
            self.assertSame(beaten(ring, (0, half + 1)), ((), (0,)))
            self.assertSame(beaten(ring, (ring - 1, half - 1)), ((1,), ()))
            self.assertSame(beaten(ring, (ring - 1, half)), ((), (0,)))

    def test_of_two_players_exactly_one_beats_the_other(self):
        for ring in RINGS:
            for start in range(ring):
                for end in range(ring):
                    if start != end:
                        self.assertEqual(steps_ahead(ring, start, end) + steps_ahead(ring, end, start), ring)
                        self.assertIn(beaten(ring, (start, end)), [((1,), ()), ((), (0,))])
        for ring, places in all_cases():
            self.assertTrue(is_tournament(beaten(ring, places)))

    def test_a_full_ring(self):
        for m in range(4):
            ring = 2 * m + 1
            self.assertEqual([len(row) for row in beaten(ring, tuple(range(ring)))], [m] * ring)

    def test_fewer_players_on_a_lesser_ring(self):
        row = ((1, 2), (2,), ())
        self.assertNotIn(row, [beaten(3, places) for places in all_places(3, 3)])
        self.assertIn(row, [beaten(5, places) for places in all_places(5, 3)])
        self.assertIn(((1,), (2,), (0,)), [beaten(3, places) for places in all_places(3, 3)])

    def test_one_player(self):
        for ring in RINGS:
            self.assertSame(beaten(ring, (ring - 1,)), ((),))

    def test_examples(self):
        self.assertSame(beaten(5, (0, 1, 2, 4))[0], (1, 2))
        self.assertSame(beaten(5, (0, 1, 4)), ((1,), (), (0, 1)))
        self.assertSame(beaten(5, (0, 2, 4)), ((1,), (2,), (0,)))
        self.assertSame(beaten(7, (0, 1, 2)), ((1, 2), (2,), ()))
        self.assertSame(beaten(1, (0,)), ((),))
        self.assertSame(beaten(7, (0, 3, 5)), ((1,), (2,), (0,)))


class TurnedAndMirrored(Same):
    def test_turned_places_are_so_many_places_ahead(self):
        for ring, places in all_cases():
            for many in range(ring):
                new = turned(ring, places, many)
                self.assertEqual(len(new), len(places))
                for before, after in zip(places, new):
                    self.assertEqual(steps_ahead(ring, before, after), many)

    def test_turned_places_have_the_same_tournament(self):
        for ring, places in all_cases():
            for many in range(ring):
                self.assertSame(beaten(ring, turned(ring, places, many)), beaten(ring, places))

    def test_mirrored_places_are_the_ring_less_the_place_but_0_stays(self):
        for ring, places in all_cases():
            self.assertSame(mirrored(ring, places), tuple(ring - place if place else 0 for place in places))

    def test_mirrored_places_have_all_results_turned(self):
        for ring, places in all_cases():
            self.assertSame(beaten(ring, mirrored(ring, places)), reversed_rows(beaten(ring, places)))

    def test_what_comes_is_places(self):
        for ring, places in all_cases():
            self.assertTrue(are_places(ring, mirrored(ring, places)))
            for many in (0, ring // 2, ring - 1):
                self.assertTrue(are_places(ring, turned(ring, places, many)))

    def test_edges(self):
        self.assertSame(turned(1, (0,), 0), (0,))
        self.assertSame(turned(31, EIGHT, 0), EIGHT)
        self.assertSame(turned(31, (30, 0), 30), (29, 30))
        self.assertSame(turned(31, (30, 0), 1), (0, 1))
        self.assertSame(mirrored(1, (0,)), (0,))
        self.assertSame(mirrored(31, (30, 0, 1, 15)), (1, 0, 30, 16))

    def test_examples(self):
        self.assertSame(turned(5, (0, 2, 4), 3), (3, 0, 2))
        self.assertSame(mirrored(5, (0, 2, 4)), (0, 3, 1))


class Around(Same):
    def test_the_order_in_which_the_players_come_ahead(self):
        for ring, places in all_cases():
            met = []
            for steps in range(ring):
                place = (places[0] + steps) % ring
                if place in places:
                    met.append(places.index(place))
            self.assertSame(around(ring, places), tuple(met))

    def test_turning_widening_and_scaling_do_not_change_it(self):
        for ring, places in all_cases():
            order = around(ring, places)
            for many in range(ring):
                self.assertSame(around(ring, turned(ring, places, many)), order)
                if ring < 31:
                    self.assertSame(around(*widened(ring, places, many)), order)
            for factor in range(1, 31 // ring + 1, 2):
                self.assertSame(around(*scaled(ring, places, factor)), order)

    def test_mirrored_the_players_but_0_come_the_other_way_round(self):
        for ring, places in all_cases():
            order = around(ring, places)
            self.assertSame(around(ring, mirrored(ring, places)), order[:1] + order[:0:-1])

    def test_examples_and_edges(self):
        self.assertSame(around(7, (3, 1, 5, 0)), (0, 2, 3, 1))
        self.assertSame(around(1, (0,)), (0,))
        self.assertSame(around(31, (30, 0)), (0, 1))
        self.assertSame(around(31, (15, 14, 13, 16)), (0, 3, 2, 1))
        self.assertSame(around(31, EIGHT), (0, 1, 5, 7, 4, 2, 3, 6))


def widened_by_hand(ring, places, at):
    """The places when the two new ones have been put in and all are numbered anew."""
    across = at
    for _ in range((ring - 1) // 2):
        across = 0 if across == ring - 1 else across + 1
    row = []
    for place in range(ring):
        row.append(place)
        row.extend(["new"] * [at, across].count(place))
    return len(row), tuple(row.index(place) for place in places)


class Widened(Same):
    def test_two_places_are_put_in_at_each_place(self):
        for ring, places in all_cases():
            if ring < 31:
                for at in range(ring):
                    self.assertSame(widened(ring, places, at), widened_by_hand(ring, places, at))

    def test_the_tournament_stays(self):
        for ring, places in all_cases():
            if ring < 31:
                for at in range(ring):
                    new_ring, new_places = widened(ring, places, at)
                    self.assertTrue(are_places(new_ring, new_places))
                    self.assertSame(beaten(new_ring, new_places), beaten(ring, places))

    def test_places_come_to_each_greater_ring(self):
        ring, places = 1, (0,)
        self.assertSame(widened(1, (0,), 0), (3, (0,)))
        ring, places = 5, (3, 0, 2)
        for greater in range(7, 33, 2):
            ring, places = widened(ring, places, ring - 1)
            self.assertEqual(ring, greater)
            self.assertSame(beaten(ring, places), beaten(5, (3, 0, 2)))

    def test_examples_and_edges(self):
        self.assertSame(widened(5, (0, 2, 4), 1), (7, (0, 3, 6)))
        self.assertSame(widened(5, (0, 2, 4), 4), (7, (0, 3, 5)))
        self.assertSame(widened(5, (0, 1, 2, 3, 4), 0), (7, (0, 2, 3, 5, 6)))
        self.assertSame(widened(5, (0, 1, 2, 3, 4), 2), (7, (0, 1, 2, 4, 5)))
        self.assertSame(widened(3, (0, 1, 2), 2), (5, (0, 2, 3)))

    def test_the_greatest_ring(self):
        self.assertEqual(widened(29, (28,), 28)[0], 31)
        for at in (0, 15, 30):
            with self.assertRaises(TooLarge) as caught:
                widened(31, EIGHT, at)
            self.assertEqual(caught.exception.what, "ring")


class Scaled(Same):
    def test_the_ring_and_the_places_are_multiplied(self):
        for ring, places in all_cases():
            for factor in range(1, 31 // ring + 1, 2):
                self.assertSame(
                    scaled(ring, places, factor), (ring * factor, tuple(place * factor for place in places))
                )

    def test_the_tournament_stays(self):
        for ring, places in all_cases():
            for factor in range(1, 31 // ring + 1, 2):
                new_ring, new_places = scaled(ring, places, factor)
                self.assertTrue(is_ring(new_ring))
                self.assertTrue(are_places(new_ring, new_places))
                self.assertSame(beaten(new_ring, new_places), beaten(ring, places))

    def test_a_ring_of_more_than_31_places_is_too_great(self):
        for ring in RINGS:
            for factor in RINGS:
                if ring * factor > 31:
                    with self.assertRaises(TooLarge) as caught:
                        scaled(ring, (0,), factor)
                    self.assertEqual(caught.exception.what, "ring")
                else:
                    self.assertSame(scaled(ring, (0,), factor), (ring * factor, (0,)))

    def test_examples_and_edges(self):
        self.assertSame(scaled(3, (0, 2), 5), (15, (0, 10)))
        self.assertSame(scaled(1, (0,), 31), (31, (0,)))
        self.assertSame(scaled(31, (30,), 1), (31, (30,)))
        self.assertSame(scaled(3, (2,), 9), (27, (18,)))
        self.assertRaises(TooLarge, scaled, 3, (2,), 11)


class Refusals(unittest.TestCase):
    """Point 17, with point 8: the first wrong argument, completely, and only then TooLarge."""

    def test_wrong_rings_alone_and_with_wrong_arguments_behind_them(self):
        for ring in NO_RINGS:
            for places in [(0,), (), None, [0], (True,)]:
                for call in (beaten, mirrored, around):
                    self.assertEqual(name_of_refusal(call, ring, places), "ring", (call, ring, places))
                for call in (turned, widened, scaled):
                    for third in (0, 1, True, None, -1, 99):
                        self.assertEqual(name_of_refusal(call, ring, places, third), "ring", (call, ring, places))

    def test_wrong_places_alone_and_with_wrong_arguments_behind_them(self):
        for places in NO_PLACES:
            for call in (beaten, mirrored, around):
                self.assertEqual(name_of_refusal(call, 5, places), "places", (call, places))
            for call in (turned, widened, scaled):
                for third in (1, 0, True, None, -1, 5, 31, 99):
                    self.assertEqual(name_of_refusal(call, 5, places, third), "places", (call, places, third))

    def test_nine_players(self):
        for call in (beaten, mirrored, around):
            self.assertEqual(name_of_refusal(call, 31, tuple(range(9))), "places")
        for call in (turned, widened, scaled):
            self.assertEqual(name_of_refusal(call, 31, tuple(range(9)), 1), "places")

    def test_wrong_numbers(self):
        for ring in RINGS:
            for number in NO_INTEGERS + [-1, -ring, ring, ring + 1, 10**30]:
                self.assertEqual(name_of_refusal(turned, ring, (0,), number), "many", (ring, number))
                self.assertEqual(name_of_refusal(widened, ring, (0,), number), "at", (ring, number))

    def test_wrong_factors(self):
        for ring in RINGS:
            for factor in NO_FACTORS:
                self.assertEqual(name_of_refusal(scaled, ring, (0,), factor), "factor", (ring, factor))

    def test_numbers_from_0_to_the_ring_less_1(self):
        for ring in RINGS:
            for number in (0, ring - 1):
                self.assertEqual(turned(ring, (0,), number), (number,))
                if ring < 31:
                    self.assertEqual(widened(ring, (0,), number), (ring + 2, (0,)))

    def test_every_error_is_a_ring_error(self):
        for ring in NO_RINGS:
            with self.assertRaises(RingError):
                beaten(ring, (0,))
        with self.assertRaises(RingError):
            scaled(31, (0,), 3)


if __name__ == "__main__":
    unittest.main()
