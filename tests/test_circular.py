"""Points 6, 7, 37 and 41 to 51, with 2, 3 and 8: whether a tournament is circular."""

import unittest
from itertools import combinations, permutations, product

from cases import (
    BAD, EIGHT_IN_A_ROW, FOUR, ONE, ROW, THREE, TWO, Same, all_cases, all_tuples, changed, exactly, great_cases,
    great_circular, is_integer, small_cases,
)
from plain import (
    all_obstructions, all_places, all_triangles, beats, circular_tournaments, residues, restricted_rows, reversed_rows,
    subsets, tournament_of, ways_by_tournament, with_loser, with_winner,
)
from wrong import NO_PLACES, NO_PLAYERS, NO_RINGS, NO_TOURNAMENTS, name_of_refusal
from ringbeats.circular import accepts_circle, circle_evidence, is_circular, least_places, part
from ringbeats.rings import mirrored, turned, widened
from ringbeats.signed import least_ring, told_order
from ringbeats.tournaments import accepts_obstruction, obstruction

RINGS = range(1, 32, 2)


def is_evidence(tournament, value):
    """Whether the document accepts the value, whatever it is."""
    if type(value) is not tuple or len(value) not in (2, 3) or type(value[0]) is not str:
        return False
    if value[0] == "obstruction" and len(value) == 2:
        return exactly(value[1], all_obstructions(tournament))
    if value[0] == "places" and len(value) == 3:
        ring, places = value[1:]
        if not is_integer(ring) or ring not in RINGS or type(places) is not tuple or len(places) != len(tournament):
            return False
        if not all(is_integer(place) and 0 <= place < ring for place in places) or len(set(places)) < len(places):
            return False
        return tournament_of(ring, places) == tournament
    return False


class IsCircular(Same):
    def test_by_some_places(self):
        for tournament in small_cases(5):
            self.assertSame(is_circular(tournament), tournament in circular_tournaments(len(tournament)))

    def test_without_an_obstruction(self):
        for tournament in [*all_cases(), *great_circular()]:
            self.assertEqual(is_circular(tournament), all_obstructions(tournament) == [])

    def test_of_at_most_three_players(self):
        for tournament in small_cases(3):
            self.assertSame(is_circular(tournament), True)

    def test_no_triangle_among_those_who_are_beaten_or_beat(self):
        for tournament in [*all_cases(), *great_circular()]:
            found = False
            for player in range(len(tournament)):
                for row in (tournament[player], reversed_rows(tournament)[player]):
                    found = found or any(set(three) <= set(row) for three in all_triangles(tournament))
            self.assertEqual(is_circular(tournament), not found)

    def test_all_parts_with_four_players(self):
        for tournament in [*all_cases(), *great_circular()]:
            if len(tournament) >= 4:
                parts = [part(tournament, four) for four in combinations(range(len(tournament)), 4)]
                self.assertEqual(is_circular(tournament), all(is_circular(four) for four in parts))

    def test_edges(self):
        for tournament in (ONE, TWO, ROW, THREE, EIGHT_IN_A_ROW):
            self.assertSame(is_circular(tournament), True)
        for tournament in (BAD, FOUR, with_winner(residues(7)), with_loser(residues(7)), residues(7)):
            self.assertSame(is_circular(tournament), False)
        # Five players in a row, above or below a triangle.
        for tournament in (THREE, reversed_rows(THREE)):
            above, below = tournament, tournament
            for _ in range(5):
                above, below = with_loser(above), with_winner(below)
            self.assertSame(is_circular(above), False)
            self.assertSame(is_circular(below), False)


class LeastPlaces(Same):
    def test_the_only_ones_on_the_least_ring_with_player_0_at_0(self):
        for players, greatest in ((1, 1), (2, 3), (3, 5), (4, 7), (5, 9)):
            for tournament in circular_tournaments(players):
                rings = [ring for ring in range(1, greatest + 1, 2) if tournament in ways_by_tournament(players, ring)]
                ways = [places for places in ways_by_tournament(players, rings[0])[tournament] if places[0] == 0]
                self.assertEqual(len(ways), 1)
                self.assertSame(least_places(tournament), (rings[0], ways[0]))

    def test_none_if_it_is_not_circular(self):
        for tournament in all_cases():
            self.assertEqual(least_places(tournament) is None, all_obstructions(tournament) != [])

    def test_of_up_to_eight_players(self):
        for tournament in great_circular():
            ring, places = least_places(tournament)
            self.assertEqual((ring, places[0]), (least_ring(tournament), 0))
            self.assertEqual(len(set(places)), len(tournament))
            self.assertEqual(tournament_of(ring, places), tournament)

    def test_by_half_places_ahead_from_player_0(self):
        for tournament in [*circular_tournaments(4), *great_circular()]:
            ring, places = least_places(tournament)
            order = told_order(tournament)
            stands = [2 * places[player] if itself else (2 * places[player] + ring) % (2 * ring)
                      for player, itself in order]
            self.assertEqual(stands, sorted(stands))
            for at in range(1, len(order)):
                step = 2 if order[at - 1][1] == order[at][1] else 1
                self.assertEqual(stands[at] - stands[at - 1], step)

    def test_examples_and_edges(self):
        self.assertSame(least_places(ONE), (1, (0,)))
        self.assertSame(least_places(TWO), (3, (0, 1)))
        self.assertSame(least_places(((), (0,))), (3, (0, 2)))
        self.assertSame(least_places(THREE), (3, (0, 1, 2)))
        self.assertSame(least_places(reversed_rows(THREE)), (3, (0, 2, 1)))
        self.assertSame(least_places(EIGHT_IN_A_ROW), (15, tuple(range(8))))
        self.assertSame(least_places(reversed_rows(EIGHT_IN_A_ROW)), (15, (0, *range(14, 7, -1))))
        self.assertSame(least_places(tournament_of(7, tuple(range(7)))), (7, tuple(range(7))))
        self.assertSame(least_places(BAD), None)


class CircleEvidence(Same):
    def test_the_first_obstruction_or_the_told_places(self):
        for tournament in [*all_cases(), *great_circular()]:
            found = all_obstructions(tournament)
            if found:
                self.assertSame(circle_evidence(tournament), ("obstruction", found[0]))
            else:
                ring, places = least_places(tournament)
                self.assertSame(circle_evidence(tournament), ("places", ring, places))

    def test_it_is_accepted(self):
        for tournament in [*all_cases(), *great_circular()]:
            self.assertSame(accepts_circle(tournament, circle_evidence(tournament)), True)

    def test_examples(self):
        self.assertSame(circle_evidence(THREE), ("places", 3, (0, 1, 2)))
        self.assertSame(circle_evidence(BAD), ("obstruction", (0, 1, 2, 3)))
        self.assertSame(circle_evidence(ROW), ("places", 5, (0, 1, 2)))
        self.assertSame(circle_evidence(ONE), ("places", 1, (0,)))
        self.assertSame(circle_evidence(FOUR), ("obstruction", (3, 0, 1, 2)))
        self.assertSame(circle_evidence(EIGHT_IN_A_ROW), ("places", 15, tuple(range(8))))


class AcceptsCircle(Same):
    def test_every_places_on_small_rings(self):
        for tournament in small_cases(3):
            for ring in range(-1, 9):
                for places in all_tuples(range(-1, ring + 1), min(len(tournament) + 1, 3)):
                    value = ("places", ring, places)
                    self.assertSame(accepts_circle(tournament, value), is_evidence(tournament, value))

    def test_every_places_of_four_and_five(self):
        for tournament in small_cases(4):
            if len(tournament) == 4:
                for ring in (3, 5, 7):
                    right = ways_by_tournament(4, ring).get(tournament, [])
                    for places in all_places(ring, 4):
                        self.assertSame(accepts_circle(tournament, ("places", ring, places)), places in right)
        for tournament in sorted(circular_tournaments(5))[::12]:
            for places in all_places(7, 5):
                accepted = accepts_circle(tournament, ("places", 7, places))
                self.assertSame(accepted, tournament_of(7, places) == tournament)

    def test_every_four_players(self):
        for tournament in small_cases(4):
            right = all_obstructions(tournament)
            for four in product(range(-1, len(tournament) + 1), repeat=4):
                self.assertSame(accepts_circle(tournament, ("obstruction", four)), four in right)
        for tournament in [BAD, FOUR, *great_cases()]:
            right = set(all_obstructions(tournament))
            for four in permutations(range(len(tournament)), 4):
                self.assertSame(accepts_circle(tournament, ("obstruction", four)), four in right)

    def test_places_on_every_ring_up_to_31(self):
        for tournament in [ONE, TWO, ROW, THREE, *great_circular()]:
            ring, places = least_places(tournament)
            while ring < 31:
                ring, places = widened(ring, places, ring // 3)
                self.assertSame(accepts_circle(tournament, ("places", ring, places)), True)
            self.assertEqual(ring, 31)
            self.assertSame(accepts_circle(tournament, ("places", 33, places)), False)
            self.assertSame(accepts_circle(tournament, ("places", 32, places)), False)

    def test_what_is_accepted_is_so(self):
        for tournament in small_cases(4):
            words = set()
            for ring in (1, 3, 5, 7):
                if len(tournament) <= ring:
                    for places in all_places(ring, len(tournament)):
                        if accepts_circle(tournament, ("places", ring, places)):
                            words.add("places")
            for four in product(range(len(tournament)), repeat=4):
                if accepts_circle(tournament, ("obstruction", four)):
                    words.add("obstruction")
            circular = tournament in circular_tournaments(len(tournament))
            self.assertEqual(words, {"places"} if circular else {"obstruction"})

    def test_each_part_of_the_evidence_changed(self):
        others = [(THREE, ("places", 5, (0, 2, 3))), (ROW, ("places", 31, (30, 0, 1)))]
        told = [(tournament, circle_evidence(tournament))
                for tournament in (ONE, TWO, ROW, THREE, BAD, FOUR, EIGHT_IN_A_ROW, with_winner(residues(7)))]
        for tournament, evidence in told + others:
            self.assertSame(accepts_circle(tournament, evidence), True)
            for value in changed(evidence):
                self.assertSame(accepts_circle(tournament, value), is_evidence(tournament, value))

    def test_every_value_is_valid(self):
        for tournament in (ONE, ROW, THREE, BAD, FOUR):
            for ring in NO_RINGS:
                for places in [(0,), (0, 1, 2), (0, 1, 2, 3), (), None, [0]]:
                    self.assertSame(accepts_circle(tournament, ("places", ring, places)), False)
            for places in NO_PLACES:
                self.assertSame(accepts_circle(tournament, ("places", 5, places)), False)
            for value in [*NO_TOURNAMENTS, *NO_PLACES]:
                self.assertSame(accepts_circle(tournament, value), False)
                self.assertSame(accepts_circle(tournament, ("obstruction", value)), False)
                self.assertSame(accepts_circle(tournament, ("places", value)), False)
                self.assertSame(accepts_circle(tournament, (value, 5, (0, 2, 3))), False)
        self.assertSame(accepts_circle(THREE, ("places", True, (0, 2, 3))), False)
        self.assertSame(accepts_circle(ONE, ("places", True, (0,))), False)
        self.assertSame(accepts_circle(ONE, ("places", 1, (False,))), False)
        self.assertSame(accepts_circle(THREE, ("obstruction", 5, (0, 2, 3))), False)
        self.assertSame(accepts_circle(BAD, ("places", (0, 1, 2, 3))), False)
        self.assertSame(accepts_circle(BAD, ("obstruction", 0, 1, 2, 3)), False)
        self.assertSame(accepts_circle(TWO, ("places", 4, (0, 1))), False)

    def test_examples(self):
        self.assertSame(accepts_circle(THREE, ("places", 5, (0, 2, 3))), True)
        self.assertSame(accepts_circle(THREE, ("places", 5, (0, 1, 2))), False)
        self.assertSame(accepts_circle(BAD, ("obstruction", (0, 1, 3, 2))), False)
        self.assertSame(accepts_circle(BAD, ("obstruction", (0, 1, 2, 3))), True)


class Part(Same):
    def test_of_all_subsets(self):
        for tournament in [*small_cases(4), *great_cases()]:
            for players in subsets(len(tournament))[1:]:
                new = part(tournament, players)
                self.assertSame(new, restricted_rows(tournament, players))
                for one, other in permutations(range(len(new)), 2):
                    self.assertEqual(beats(new, one, other), beats(tournament, players[one], players[other]))

    def test_the_places_of_the_players_are_places_for_it(self):
        for tournament in [*circular_tournaments(4), *great_circular()]:
            ring, places = least_places(tournament)
            for players in subsets(len(tournament))[1:]:
                some = tuple(places[player] for player in players)
                self.assertSame(accepts_circle(part(tournament, players), ("places", ring, some)), True)

    def test_an_obstruction_among_the_players_is_one_of_it(self):
        for tournament in [BAD, FOUR, *great_cases()]:
            four = obstruction(tournament)
            if four is not None:
                for players in subsets(len(tournament))[1:]:
                    if set(four) <= set(players):
                        new = tuple(players.index(player) for player in four)
                        self.assertSame(accepts_circle(part(tournament, players), ("obstruction", new)), True)

    def test_examples_and_edges(self):
        self.assertSame(part(BAD, (1, 2, 3)), THREE)
        self.assertSame(part(BAD, (0, 2, 3)), ROW)
        self.assertSame(part(BAD, (0, 1, 2, 3)), BAD)
        self.assertSame(part(BAD, (3,)), ONE)
        self.assertSame(part(ONE, (0,)), ONE)
        self.assertSame(part(EIGHT_IN_A_ROW, (6, 7)), TWO)
        self.assertSame(part(EIGHT_IN_A_ROW, tuple(range(8))), EIGHT_IN_A_ROW)


class TurnedAndMirrored(Same):
    """Points 46 to 49."""

    def test_turned_and_mirrored_places(self):
        for tournament in [*circular_tournaments(3), *circular_tournaments(4), *great_circular()]:
            ring, places = least_places(tournament)
            back = reversed_rows(tournament)
            self.assertSame(accepts_circle(back, ("places", ring, mirrored(ring, places))), True)
            for many in range(ring):
                self.assertSame(accepts_circle(tournament, ("places", ring, turned(ring, places, many))), True)

    def test_an_obstruction_with_y_and_z_exchanged(self):
        for tournament in all_cases():
            for a, x, y, z in all_obstructions(tournament):
                self.assertSame(accepts_circle(reversed_rows(tournament), ("obstruction", (a, x, z, y))), True)

    def test_places_for_one_and_an_obstruction_for_another_one(self):
        for bad in (BAD, FOUR, reversed_rows(BAD), reversed_rows(FOUR)):
            four = circle_evidence(bad)[1]
            for tournament in circular_tournaments(4):
                self.assertTrue(any(beats(tournament, one, other) != beats(bad, one, other)
                                    for one, other in combinations(four, 2)))
                self.assertFalse(accepts_obstruction(tournament, four))

    def test_widened_again_and_again(self):
        for tournament in [*circular_tournaments(3), *great_circular()]:
            ring, places = least_places(tournament)
            while ring < 31:
                ring, places = widened(ring, places, 0)
                self.assertSame(accepts_circle(tournament, ("places", ring, places)), True)


class Refusals(unittest.TestCase):
    """Point 50, with point 8."""

    def test_what_is_no_tournament_alone_and_with_anything_behind_it(self):
        for value in NO_TOURNAMENTS:
            for call in (is_circular, least_places, circle_evidence):
                self.assertEqual(name_of_refusal(call, value), "tournament", (call, value))
            for second in [(0,), (0, 1), (), None, True, [0], (5, 3), ("places", 3, (0, 1)), ("obstruction", ())]:
                for call in (accepts_circle, part):
                    self.assertEqual(name_of_refusal(call, value, second), "tournament", (call, value, second))

    def test_what_are_no_players(self):
        for tournament in (ROW, THREE):
            for players in [(), *NO_PLAYERS]:
                self.assertEqual(name_of_refusal(part, tournament, players), "players", players)
        for players in [(8,), (0, 8), tuple(range(9)), (-1, 7), (7, 6), ()]:
            self.assertEqual(name_of_refusal(part, EIGHT_IN_A_ROW, players), "players", players)
        for players in [(1,), (-1,), (0, 0), (0, 1), ()]:
            self.assertEqual(name_of_refusal(part, ONE, players), "players", players)


class NothingIsKept(unittest.TestCase):
    """Point 2."""

    def test_equal_calls_have_equal_results(self):
        for _ in range(2):
            self.assertEqual([is_circular(ROW), is_circular(BAD), is_circular(THREE)], [True, False, True])
            self.assertEqual(least_places(ROW), (5, (0, 1, 2)))
            self.assertEqual(circle_evidence(BAD), ("obstruction", (0, 1, 2, 3)))

    def test_judged_and_refused_lists_stay_as_they_were(self):
        judged, players = ["places", 5, [2, 1, 0]], [2, 0]
        accepts_circle(ROW, judged)
        accepts_circle(ROW, tuple(judged))
        name_of_refusal(part, ROW, players)
        self.assertEqual((judged, players), (["places", 5, [2, 1, 0]], [2, 0]))


if __name__ == "__main__":
    unittest.main()
