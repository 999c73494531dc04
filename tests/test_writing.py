"""Points 113, 116 to 119, with 8: writing the texts of tournaments and of rings."""

import unittest
from itertools import permutations

from cases import BAD, EIGHT_IN_A_ROW, FOUR, ONE, ROW, THREE, TWO, Same, great_cases, small_cases
from plain import beats, tournament_of
from plain_texts import written_ring, written_tournament
from wrong import NO_PLACES, NO_RINGS, NO_TOURNAMENTS, name_of_refusal
from ringbeats.reading import read_ring, read_tournament
from ringbeats.scanning import scan
from ringbeats.writing import ring_text, tournament_text


class TournamentText(Same):
    def test_every_tournament_of_up_to_five_players_and_some_of_up_to_eight(self):
        for tournament in [*small_cases(5), *great_cases()]:
            self.assertSame(tournament_text(tournament), written_tournament(tournament))

    def test_reading_it_returns_the_same(self):
        for tournament in [*small_cases(4), *great_cases()]:
            self.assertSame(read_tournament(tournament_text(tournament)), tournament)

    def test_a_mark_for_each_player(self):
        for tournament in [*small_cases(3), *great_cases()]:
            rows = tournament_text(tournament).split(" ")
            self.assertEqual(len(rows), len(tournament))
            for player, row in enumerate(rows):
                self.assertEqual(len(row), len(tournament))
                for other, mark in enumerate(row):
                    expected = "." if player == other else "+" if beats(tournament, player, other) else "-"
                    self.assertEqual(mark, expected)

    def test_examples_and_edges(self):
        self.assertSame(tournament_text(ROW), ".++ -.+ --.")
        self.assertSame(tournament_text(tournament_of(5, (0, 2, 4))), ".+- -.+ +-.")
        self.assertSame(tournament_text(THREE), ".+- -.+ +-.")
        self.assertSame(tournament_text(ONE), ".")
        self.assertSame(tournament_text(TWO), ".+ -.")
        self.assertSame(tournament_text(((), (0,))), ".- +.")
        self.assertSame(tournament_text(BAD), ".+++ -.+- --.+ -+-.")
        self.assertSame(tournament_text(FOUR), ".+-- -.+- +-.- +++.")
        self.assertSame(len(tournament_text(EIGHT_IN_A_ROW)), 71)
        self.assertSame(tournament_text(EIGHT_IN_A_ROW)[:17], ".+++++++ -.++++++")


class RingText(Same):
    def test_all_places_on_small_rings(self):
        for ring in (1, 3, 5, 7):
            for many in range(1, min(ring, 4) + 1):
                for places in permutations(range(ring), many):
                    self.assertSame(ring_text(ring, places), written_ring(ring, places))
                    self.assertSame(read_ring(ring_text(ring, places)), (ring, places))

    def test_every_ring_and_eight_players(self):
        for ring in range(9, 32, 2):
            places = tuple(place * 4 % ring for place in range(8))
            self.assertSame(ring_text(ring, places), written_ring(ring, places))
            self.assertSame(read_ring(ring_text(ring, places)), (ring, places))

    def test_the_tokens(self):
        tokens = scan(ring_text(31, (30, 0, 10)))
        self.assertEqual([token[1] for token in tokens], ["31", ":", "30", "0", "10", ""])

    def test_examples_and_edges(self):
        self.assertSame(ring_text(7, (3, 0)), "7: 3 0")
        self.assertSame(ring_text(5, (0, 2, 4)), "5: 0 2 4")
        self.assertSame(ring_text(1, (0,)), "1: 0")
        self.assertSame(ring_text(31, (30,)), "31: 30")
        self.assertSame(ring_text(31, (30, 0, 9, 10, 11, 12, 13, 14)), "31: 30 0 9 10 11 12 13 14")


class Refusals(unittest.TestCase):
    """Point 118, with point 8."""

    def test_what_is_no_tournament(self):
        for value in NO_TOURNAMENTS:
            self.assertEqual(name_of_refusal(tournament_text, value), "tournament", value)

    def test_what_is_no_ring_alone_and_with_anything_behind_it(self):
        for ring in NO_RINGS:
            for places in [(0,), (0, 1), (), None, [0], (-1,), (True,)]:
                self.assertEqual(name_of_refusal(ring_text, ring, places), "ring", (ring, places))

    def test_what_are_no_places(self):
        for places in NO_PLACES:
            self.assertEqual(name_of_refusal(ring_text, 5, places), "places", places)
        self.assertEqual(name_of_refusal(ring_text, 31, tuple(range(9))), "places")
        self.assertEqual(name_of_refusal(ring_text, 3, (0, 3)), "places")
        self.assertEqual(name_of_refusal(ring_text, 1, (1,)), "places")


if __name__ == "__main__":
    unittest.main()
