"""Points 75 and 80 to 86, with 2, 3, 4, 7 and 8: cycles, rows of all, and walks without end."""

import unittest
from itertools import permutations, product

from cases import (
    BAD, EIGHT_IN_A_ROW, FOUR, ONE, ROW, THREE, TWO, WALKS, Same, all_cases, all_tuples, are_integers, changed, exactly,
    great_cases, great_circular, in_a_row, small_cases, some_orders,
)
from plain import (
    all_orders, all_triangles, beats, is_transitive, residues, reversed_rows, tournament_of, with_loser, with_winner,
)
from wrong import NO_INTEGERS, NO_PLAYER, NO_PLAYERS, NO_TOURNAMENTS, name_of_refusal
from ringbeats.cycles import accepts_endless, count_rows, endless_evidence, first_cycle, first_row
from ringbeats.walks import shortest_walk

LEVELS = range(101)


def walks_of_different(tournament, players, many):
    """The walks of so many different ones of the players, in their order, by trying all."""
    return [walk for walk in permutations(players, many)
            if all(beats(tournament, one, other) for one, other in zip(walk, walk[1:]))]


def all_cycles(tournament, player, many):
    """The cycles of the player with so many players, in their order."""
    return [walk for walk in walks_of_different(tournament, range(len(tournament)), many)
            if walk[0] == player and beats(tournament, walk[-1], player)]


def counted_rows(tournament):
    """The number of the rows of all, counted by the set of those who stand in a walk and by its last one."""
    counts = {(frozenset([player]), player): 1 for player in range(len(tournament))}
    for _ in range(len(tournament) - 1):
        new = {}
        for (inside, last), many in counts.items():
            for player in tournament[last]:
                if player not in inside:
                    key = (inside | {player}, player)
                    new[key] = new.get(key, 0) + many
        counts = new
    return sum(counts.values())


def is_evidence(tournament, value):
    """Point 83, for any value."""
    if type(value) is not tuple or len(value) != 2 or type(value[0]) is not str:
        return False
    if value[0] == "triangle":
        return exactly(value[1], all_triangles(tournament))
    if value[0] == "levels" and are_integers(value[1], len(tournament), LEVELS):
        return all(value[1][y] < value[1][x] for x, y in permutations(range(len(tournament)), 2)
                   if beats(tournament, x, y))
    return False


class FirstCycle(Same):
    def test_of_up_to_five_players(self):
        for tournament in [*small_cases(4), *list(small_cases(5))[-1024::5]]:
            for player in range(len(tournament)):
                for many in range(3, 9):
                    cycles = all_cycles(tournament, player, many)
                    self.assertSame(first_cycle(tournament, player, many), cycles[0] if cycles else None)

    def test_of_six_seven_and_eight_players(self):
        seven = residues(7)
        for tournament in (residues(6), seven, with_winner(seven), with_loser(seven), *list(great_circular())[::13]):
            for player in (0, len(tournament) // 2, len(tournament) - 1):
                for many in (3, 5, 8):
                    cycles = all_cycles(tournament, player, many)
                    self.assertSame(first_cycle(tournament, player, many), cycles[0] if cycles else None)

    def test_it_is_a_walk_of_different_players_that_closes(self):
        for tournament in [*all_cases(), *great_circular()]:
            for player in range(len(tournament)):
                for many in range(3, 9):
                    cycle = first_cycle(tournament, player, many)
                    if cycle is not None:
                        self.assertEqual((cycle[0], len(cycle), len(set(cycle))), (player, many, many))
                        for one, other in zip(cycle, cycle[1:] + cycle[:1]):
                            self.assertTrue(beats(tournament, one, other))

    def test_of_every_number_of_players_if_a_walk_leads_from_each_to_each(self):
        for tournament in [*all_cases(), *great_circular()]:
            players = len(tournament)
            if players >= 3:
                leads = all(shortest_walk(tournament, one, other) is not None
                            for one, other in permutations(range(players), 2))
                for player in range(players):
                    found = [first_cycle(tournament, player, many) is not None for many in range(3, 9)]
                    self.assertEqual(found[players - 3], leads)
                    if leads:
                        self.assertEqual(found, [many <= players for many in range(3, 9)])

    def test_none_of_more_players_than_there_are_and_none_if_transitive(self):
        for tournament in [*small_cases(4), *great_cases(), *great_circular()]:
            for player in range(len(tournament)):
                for many in range(3, 9):
                    if many > len(tournament) or is_transitive(tournament):
                        self.assertSame(first_cycle(tournament, player, many), None)

    def test_examples_and_edges(self):
        self.assertSame(first_cycle(WALKS, 3, 3), (3, 1, 2))
        self.assertSame(first_cycle(WALKS, 0, 4), (0, 1, 2, 3))
        self.assertSame(first_cycle(ROW, 0, 3), None)
        self.assertSame(first_cycle(THREE, 2, 3), (2, 0, 1))
        self.assertSame(first_cycle(THREE, 0, 4), None)
        self.assertSame(first_cycle(ONE, 0, 3), None)
        self.assertSame(first_cycle(ONE, 0, 8), None)
        self.assertSame(first_cycle(BAD, 0, 3), None)
        self.assertSame(first_cycle(BAD, 3, 3), (3, 1, 2))
        self.assertSame(first_cycle(BAD, 3, 4), None)
        ring = tournament_of(15, tuple(range(0, 15, 2)))
        self.assertSame(first_cycle(ring, 0, 8), (0, 1, 2, 3, 4, 5, 6, 7))
        self.assertSame(first_cycle(ring, 7, 8), (7, 0, 1, 2, 3, 4, 5, 6))


class Rows(Same):
    def test_of_up_to_five_players(self):
        for tournament in small_cases(5):
            rows = walks_of_different(tournament, range(len(tournament)), len(tournament))
            self.assertSame(first_row(tournament), rows[0])
            self.assertSame(count_rows(tournament), len(rows))

    def test_of_six_seven_and_eight_players(self):
        for tournament in [*great_cases(), *great_circular()]:
            self.assertSame(count_rows(tournament), counted_rows(tournament))
            row = first_row(tournament)
            self.assertEqual(sorted(row), list(range(len(tournament))))
            self.assertTrue(all(beats(tournament, one, other) for one, other in zip(row, row[1:])))
        for tournament in (residues(6), residues(7), with_winner(residues(7)), with_loser(residues(7))):
            rows = walks_of_different(tournament, range(len(tournament)), len(tournament))
            self.assertSame(first_row(tournament), rows[0])
            self.assertSame(count_rows(tournament), len(rows))

    def test_the_number_is_odd_and_1_only_if_transitive(self):
        for tournament in [*all_cases(), *great_circular()]:
            many = count_rows(tournament)
            self.assertEqual(many % 2, 1)
            self.assertEqual(many == 1, is_transitive(tournament))

    def test_if_all_results_are_turned_there_are_as_many(self):
        for tournament in [*small_cases(4), *great_cases()]:
            self.assertEqual(count_rows(reversed_rows(tournament)), count_rows(tournament))

    def test_of_a_transitive_one_it_is_the_order(self):
        for players in range(1, 9):
            for order in some_orders(players):
                self.assertSame(first_row(in_a_row(order)), order)
                self.assertSame(count_rows(in_a_row(order)), 1)

    def test_examples_and_edges(self):
        self.assertSame(first_row(WALKS), (0, 1, 2, 3))
        self.assertSame(count_rows(WALKS), 5)
        self.assertSame(count_rows(ROW), 1)
        self.assertSame(first_row(ONE), (0,))
        self.assertSame(count_rows(ONE), 1)
        self.assertSame(first_row(((), (0,))), (1, 0))
        self.assertSame(count_rows(THREE), 3)
        self.assertSame(first_row(THREE), (0, 1, 2))
        self.assertSame(count_rows(residues(7)), 189)
        self.assertSame(count_rows(EIGHT_IN_A_ROW), 1)


class EndlessEvidence(Same):
    def test_the_first_triangle_or_levels_that_are_accepted(self):
        for tournament in [*all_cases(), *great_circular()]:
            found = all_triangles(tournament)
            told = endless_evidence(tournament)
            if found:
                self.assertSame(told, ("triangle", found[0]))
            else:
                self.assertEqual(told[0], "levels")
            self.assertTrue(is_evidence(tournament, told), (tournament, told))
            self.assertSame(accepts_endless(tournament, told), True)

    def test_of_transitive_ones_of_up_to_eight_players(self):
        for players in range(1, 9):
            for order in some_orders(players):
                told = endless_evidence(in_a_row(order))
                self.assertEqual(told[0], "levels")
                self.assertSame(accepts_endless(in_a_row(order), told), True)
                falling = [told[1][player] for player in order]
                self.assertEqual(falling, sorted(set(falling), reverse=True))

    def test_examples(self):
        self.assertSame(endless_evidence(WALKS), ("triangle", (0, 1, 2)))
        self.assertSame(endless_evidence(BAD), ("triangle", (1, 2, 3)))
        self.assertSame(endless_evidence(((2,), (0,), (1,))), ("triangle", (0, 2, 1)))
        self.assertSame(endless_evidence(ROW)[0], "levels")
        self.assertSame(endless_evidence(ONE)[0], "levels")


class AcceptsEndless(Same):
    def test_all_small_levels_and_all_triples(self):
        for tournament in small_cases(4):
            for numbers in product(range(-1, 4), repeat=len(tournament)):
                value = ("levels", numbers)
                self.assertSame(accepts_endless(tournament, value), is_evidence(tournament, value))
            for told in all_tuples(range(-1, len(tournament) + 1), 3):
                value = ("triangle", told)
                self.assertSame(accepts_endless(tournament, value), is_evidence(tournament, value))
                value = ("levels", told)
                self.assertSame(accepts_endless(tournament, value), is_evidence(tournament, value))

    def test_levels_from_0_to_100(self):
        self.assertSame(accepts_endless(ONE, ("levels", (0,))), True)
        self.assertSame(accepts_endless(ONE, ("levels", (100,))), True)
        self.assertSame(accepts_endless(ONE, ("levels", (101,))), False)
        self.assertSame(accepts_endless(ONE, ("levels", (-1,))), False)
        self.assertSame(accepts_endless(TWO, ("levels", (100, 0))), True)
        self.assertSame(accepts_endless(TWO, ("levels", (100, 99))), True)
        self.assertSame(accepts_endless(TWO, ("levels", (101, 100))), False)
        self.assertSame(accepts_endless(TWO, ("levels", (0, -1))), False)
        self.assertSame(accepts_endless(TWO, ("levels", (5, 5))), False)
        self.assertSame(accepts_endless(EIGHT_IN_A_ROW, ("levels", (100, 70, 69, 20, 5, 4, 2, 0))), True)
        self.assertSame(accepts_endless(EIGHT_IN_A_ROW, ("levels", (100, 70, 70, 20, 5, 4, 2, 0))), False)

    def test_what_is_accepted_is_so(self):
        for tournament in small_cases(4):
            words = set()
            for numbers in product(range(4), repeat=len(tournament)):
                if accepts_endless(tournament, ("levels", numbers)):
                    words.add("levels")
            for three in product(range(len(tournament)), repeat=3):
                if accepts_endless(tournament, ("triangle", three)):
                    words.add("triangle")
            self.assertEqual(words, {"levels"} if all_orders(tournament) else {"triangle"})
            self.assertEqual(words, {"levels"} if is_transitive(tournament) else {"triangle"})

    def test_each_part_of_the_evidence_changed(self):
        for tournament in (ONE, TWO, ((), (0,)), ROW, THREE, WALKS, BAD, FOUR, EIGHT_IN_A_ROW, residues(7)):
            told = endless_evidence(tournament)
            for value in changed(told):
                self.assertSame(accepts_endless(tournament, value), is_evidence(tournament, value))
        for tournament, told in ((WALKS, ("triangle", (1, 2, 3))), (ROW, ("levels", (100, 50, 1)))):
            self.assertSame(accepts_endless(tournament, told), True)
            for value in changed(told):
                self.assertSame(accepts_endless(tournament, value), is_evidence(tournament, value))

    def test_every_value_is_valid(self):
        for value in [*NO_TOURNAMENTS, *NO_PLAYERS]:
            for tournament in (ONE, ROW, THREE, BAD):
                self.assertSame(accepts_endless(tournament, value), False)
                self.assertSame(accepts_endless(tournament, ("triangle", value)), False)
                self.assertSame(accepts_endless(tournament, (value, (2, 1, 0))), False)
                expected = is_evidence(tournament, ("levels", value))
                self.assertSame(accepts_endless(tournament, ("levels", value)), expected)
        self.assertSame(accepts_endless(TWO, ("levels", (True, 0))), False)
        self.assertSame(accepts_endless(TWO, ("levels", (1, False))), False)
        self.assertSame(accepts_endless(TWO, ["levels", (1, 0)]), False)
        self.assertSame(accepts_endless(TWO, ("levels", [1, 0])), False)
        self.assertSame(accepts_endless(TWO, ("levels", (1, 0), ())), False)
        self.assertSame(accepts_endless(THREE, ("triangle", (False, 1, 2))), False)

    def test_examples(self):
        self.assertSame(accepts_endless(ROW, ("levels", (2, 1, 0))), True)
        self.assertSame(accepts_endless(ROW, ("levels", (0, 1, 2))), False)
        self.assertSame(accepts_endless(WALKS, ("triangle", (1, 2, 3))), True)
        self.assertSame(accepts_endless(WALKS, ("triangle", (1, 2, 0))), False)


class Refusals(unittest.TestCase):
    """Point 85, with point 8."""

    def test_what_is_no_tournament_alone_and_with_anything_behind_it(self):
        for value in NO_TOURNAMENTS:
            for call in (first_row, count_rows, endless_evidence):
                self.assertEqual(name_of_refusal(call, value), "tournament", (call, value))
            for judged in [("levels", (1, 0)), (), None, True]:
                self.assertEqual(name_of_refusal(accepts_endless, value, judged), "tournament", (value, judged))
            for player, many in product([0, 1, -1, 9, None, True], [3, 8, 2, 9, None, True]):
                self.assertEqual(name_of_refusal(first_cycle, value, player, many), "tournament", (value, player))

    def test_what_is_no_player_alone_and_with_anything_behind_it(self):
        for tournament in (ROW, THREE):
            for player in NO_PLAYER:
                for many in [3, 8, 2, 9, 0, None, True, "3", (3,)]:
                    self.assertEqual(name_of_refusal(first_cycle, tournament, player, many), "player", (player, many))
        for tournament, player in ((ONE, 1), (ONE, -1), (ONE, False), (BAD, 4), (EIGHT_IN_A_ROW, 8)):
            self.assertEqual(name_of_refusal(first_cycle, tournament, player, 3), "player")

    def test_what_is_no_number_of_players(self):
        for tournament in (ONE, TWO, ROW, THREE, WALKS, EIGHT_IN_A_ROW):
            for many in NO_INTEGERS + [0, 1, 2, -3, 9, 10, 10**30, "3", (3,), [3]]:
                for player in (0, len(tournament) - 1):
                    self.assertEqual(name_of_refusal(first_cycle, tournament, player, many), "many", many)
            for many in range(3, 9):
                self.assertNotEqual(name_of_refusal(first_cycle, tournament, 0, many), "many", many)


class NothingIsKept(unittest.TestCase):
    """Point 2."""

    def test_equal_calls_have_equal_results(self):
        for _ in range(2):
            self.assertEqual([first_cycle(WALKS, 3, 3), first_cycle(ROW, 0, 3)], [(3, 1, 2), None])
            self.assertEqual([first_row(WALKS), count_rows(WALKS), count_rows(ROW)], [(0, 1, 2, 3), 5, 1])

    def test_judged_lists_stay_as_they_were(self):
        judged = ["levels", [2, 1, 0]]
        accepts_endless(ROW, judged)
        accepts_endless(ROW, tuple(judged))
        self.assertEqual(judged, ["levels", [2, 1, 0]])


if __name__ == "__main__":
    unittest.main()
