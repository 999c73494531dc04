"""Points 5, 7, 19, 22, 23, 28 and 29, with 2, 3, 4 and 8: tournaments."""

import unittest
from itertools import combinations, product

from cases import EIGHT_IN_A_ROW, FOUR, ROW, THREE, Same, all_cases, great_cases
from plain import (
    all_obstructions, all_tournaments, all_triangles, all_twins, circular_tournaments, is_obstruction, residues,
    reversed_rows, with_loser, with_winner,
)
from wrong import NINE_IN_A_ROW, NO_TOURNAMENTS, name_of_refusal
from ringbeats.rings import beaten
from ringbeats.tournaments import (
    accepts_obstruction, count_triangles, is_tournament, obstruction, triangles, twins,
)


def is_tournament_by_sets(rows):
    """Point 5, for a tuple of tuples of integers."""
    if not 1 <= len(rows) <= 8:
        return False
    players = set(range(len(rows)))
    if any(list(row) != sorted(set(row)) or not set(row) <= players for row in rows):
        return False
    results = [(one, other) for one in players for other in rows[one]]
    needed = list(combinations(sorted(players), 2))
    return sorted(tuple(sorted(result)) for result in results) == needed


class IsTournament(Same):
    def test_tournaments(self):
        for tournament in all_cases():
            self.assertSame(is_tournament(tournament), True)

    def test_every_two_and_three_short_rows(self):
        items = [tuple(row) for many in range(3) for row in product(range(-1, 4), repeat=many)]
        accepted = 0
        for many in (1, 2, 3):
            for rows in product(items, repeat=many):
                self.assertEqual(is_tournament(rows), is_tournament_by_sets(rows), rows)
                accepted += is_tournament(rows)
        self.assertEqual(accepted, 1 + 2 + 8)

    def test_every_value_is_valid(self):
        for value in NO_TOURNAMENTS:
            self.assertSame(is_tournament(value), False)

    def test_from_one_to_eight_players(self):
        self.assertSame(is_tournament(((),)), True)
        self.assertSame(is_tournament(EIGHT_IN_A_ROW), True)
        self.assertSame(is_tournament(()), False)
        self.assertSame(is_tournament(NINE_IN_A_ROW), False)

    def test_one_result_told_twice_or_left_out_or_turned(self):
        for at in range(8):
            for other in range(8):
                rows = [set(row) for row in EIGHT_IN_A_ROW]
                rows[at] ^= {other}
                self.assertSame(is_tournament(tuple(tuple(sorted(row)) for row in rows)), False)
                if at != other:
                    rows[other] ^= {at}
                    self.assertSame(is_tournament(tuple(tuple(sorted(row)) for row in rows)), True)


class Triangles(Same):
    def test_the_triangles_ascending(self):
        for tournament in all_cases():
            self.assertSame(triangles(tournament), all_triangles(tournament))

    def test_their_number(self):
        for tournament in all_cases():
            self.assertSame(count_triangles(tournament), len(all_triangles(tournament)))

    def test_the_number_by_the_scores(self):
        for tournament in all_cases():
            n = len(tournament)
            scores = [len(row) for row in tournament]
            self.assertEqual(sum(scores), n * (n - 1) // 2)
            threes = len(list(combinations(range(n), 3)))
            pairs = sum(len(list(combinations(row, 2))) for row in tournament)
            self.assertEqual(count_triangles(tournament), threes - pairs)

    def test_examples_and_edges(self):
        self.assertSame(triangles(FOUR), [(0, 1, 2)])
        self.assertSame(count_triangles(FOUR), 1)
        self.assertSame(triangles(((2,), (0,), (1,))), [(0, 2, 1)])
        self.assertSame(triangles(((),)), [])
        self.assertSame(count_triangles(((),)), 0)
        self.assertSame(triangles(((1,), ())), [])
        self.assertSame(triangles(EIGHT_IN_A_ROW), [])
        self.assertSame(count_triangles(EIGHT_IN_A_ROW), 0)
        self.assertSame(count_triangles(residues(7)), 14)


class Obstructions(Same):
    def test_the_first_one(self):
        for tournament in all_cases():
            found = all_obstructions(tournament)
            self.assertSame(obstruction(tournament), found[0] if found else None)

    def test_what_is_told_is_accepted(self):
        for tournament in all_cases():
            told = obstruction(tournament)
            if told is not None:
                self.assertSame(accepts_obstruction(tournament, told), True)

    def test_the_judge_accepts_obstructions_and_nothing_else(self):
        for tournament in [*all_tournaments(4), *all_tournaments(3), with_winner(FOUR), with_loser(FOUR)]:
            players = range(len(tournament))
            for value in product(range(-1, len(tournament) + 1), repeat=4):
                expected = all(item in players for item in value) and is_obstruction(tournament, *value)
                self.assertSame(accepts_obstruction(tournament, value), expected)

    def test_the_judge_among_many_players(self):
        for tournament in great_cases():
            for value in product(range(len(tournament)), repeat=4):
                self.assertEqual(accepts_obstruction(tournament, value), is_obstruction(tournament, *value))

    def test_a_tournament_is_circular_if_and_only_if_there_is_none(self):
        for players in (1, 2, 3, 4, 5):
            circular = circular_tournaments(players)
            for tournament in all_tournaments(players):
                self.assertEqual(obstruction(tournament) is None, tournament in circular, tournament)

    def test_places_have_no_obstruction(self):
        for ring in (15, 31):
            for step in range(1, ring):
                places = tuple(dict.fromkeys(place * step % ring for place in range(ring)))[:8]
                self.assertIsNone(obstruction(beaten(ring, places)))

    def test_examples_and_edges(self):
        self.assertSame(obstruction(FOUR), (3, 0, 1, 2))
        self.assertSame(obstruction(reversed_rows(FOUR)), (3, 0, 2, 1))
        self.assertSame(obstruction(((1, 2, 3), (2,), (3,), (1,))), (0, 1, 2, 3))
        self.assertEqual([four for four in product(range(4), repeat=4) if accepts_obstruction(FOUR, four)],
                         [(3, 0, 1, 2)])
        for tournament in (((),), ((1,), ()), THREE, ROW, EIGHT_IN_A_ROW, ((1,), (2,), (0, 3), (0, 1))):
            self.assertIsNone(obstruction(tournament))

    def test_every_value_is_valid_for_the_judge(self):
        wrong = [
            None, True, False, 0, 3, "3012", "", (), [], [3, 0, 1, 2], (3,), (3, 0, 1), (3, 0, 1, 2, 0),
            (3, 0, 1, 2, 3), ((3, 0, 1, 2),), (3, (0, 1, 2)), ("3", "0", "1", "2"), (None, 0, 1, 2), (3, 0, 1, None),
            (3, 0, 1, "2"), (3, False, 1, 2), (3, 0, True, 2), (True, 0, 1, 2), (3, 0, 1, (2,)), (3, 0, 1, [2]),
            ([3], 0, 1, 2), (-1, 0, 1, 2), (3, 0, 1, -2), (3, -4, 1, 2), (4, 0, 1, 2), (3, 0, 1, 4), (10**30, 0, 1, 2),
            (3, 1, 2, 0), (3, 2, 0, 1), (3, 0, 2, 1), (0, 1, 2, 3), (3, 0, 0, 0), (0, 0, 1, 2), (3, 0, 1, 1),
            ("obstruction", (3, 0, 1, 2)), (0, 1, 2, 3) * 1000,
        ]
        for value in wrong:
            self.assertSame(accepts_obstruction(FOUR, value), False)
        for value in [*wrong, (3, 0, 1, 2)]:
            self.assertSame(accepts_obstruction(((),), value), False)
            self.assertSame(accepts_obstruction(EIGHT_IN_A_ROW, value), False)

    def test_a_player_that_is_not_an_integer_where_an_equal_integer_is_accepted(self):
        winner = ((1, 2, 3), (2,), (3,), (1,))
        self.assertSame(accepts_obstruction(winner, (0, 1, 2, 3)), True)
        self.assertSame(accepts_obstruction(winner, (False, 1, 2, 3)), False)
        self.assertSame(accepts_obstruction(winner, (0, True, 2, 3)), False)


class Twins(Same):
    def test_the_pairs_ascending(self):
        for tournament in all_cases():
            self.assertSame(twins(tournament), all_twins(tournament))

    def test_they_stand_in_no_triangle_with_each_other(self):
        for tournament in all_cases():
            for one, other in twins(tournament):
                for triangle in triangles(tournament):
                    self.assertFalse(one in triangle and other in triangle)

    def test_exchanged_only_the_result_between_them_is_turned(self):
        for tournament in all_cases():
            players = range(len(tournament))
            for one, other in twins(tournament):
                exchange = {player: player for player in players} | {one: other, other: one}
                for a, b in combinations(players, 2):
                    stays = (b in tournament[a]) == (exchange[b] in tournament[exchange[a]])
                    self.assertEqual(stays, (a, b) != (one, other))

    def test_examples_and_edges(self):
        self.assertSame(twins(ROW), [(0, 1), (1, 2)])
        self.assertSame(twins(FOUR), [])
        self.assertSame(twins(((),)), [])
        self.assertSame(twins(((1,), ())), [(0, 1)])
        self.assertSame(twins(((), (0,))), [(0, 1)])
        self.assertSame(twins(THREE), [])
        self.assertSame(twins(((2,), (0, 2), ())), [(0, 1), (0, 2)])
        self.assertSame(twins(EIGHT_IN_A_ROW), [(one, one + 1) for one in range(7)])


class Refusals(unittest.TestCase):
    """Point 28, with point 8."""

    def test_what_is_no_tournament(self):
        for value in NO_TOURNAMENTS:
            for call in (triangles, count_triangles, obstruction, twins):
                self.assertEqual(name_of_refusal(call, value), "tournament", (call, value))

    def test_what_is_no_tournament_with_anything_to_be_judged(self):
        for value in NO_TOURNAMENTS:
            for judged in [(3, 0, 1, 2), (), None, True, [3, 0, 1, 2], (9, 9, 9, 9)]:
                self.assertEqual(name_of_refusal(accepts_obstruction, value, judged), "tournament", (value, judged))


class NothingIsKept(unittest.TestCase):
    """Point 2: equal calls have equal results, whatever became of an earlier result."""

    def test_a_returned_list_is_not_used_again(self):
        for call in (triangles, twins):
            for tournament in (FOUR, ROW, EIGHT_IN_A_ROW, ((),)):
                first = call(tournament)
                kept = list(first)
                first.append((9, 9))
                first.reverse()
                self.assertEqual(call(tournament), kept)
                self.assertIsNot(call(tournament), call(tournament))

    def test_the_first_obstruction_does_not_depend_on_earlier_calls(self):
        triangles(FOUR).clear()
        self.assertEqual([obstruction(FOUR), obstruction(THREE), obstruction(FOUR)], [(3, 0, 1, 2), None, (3, 0, 1, 2)])

    def test_refused_lists_stay_as_they_were(self):
        rows = [[1], []]
        for call in (triangles, count_triangles, obstruction, twins):
            name_of_refusal(call, rows)
        judged = [3, 0, 1, 2]
        accepts_obstruction(FOUR, judged)
        self.assertEqual((rows, judged), ([[1], []], [3, 0, 1, 2]))


if __name__ == "__main__":
    unittest.main()
