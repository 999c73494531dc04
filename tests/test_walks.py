"""Points 75 to 79 and 84 to 86, with 2, 3, 4 and 8: walks."""

import unittest
from itertools import combinations, permutations, product

from cases import (
    BAD, EIGHT_IN_A_ROW, FOUR, ONE, ROW, THREE, TWO, WALKS, Same, all_cases, all_tuples, are_integers, changed, exactly,
    great_cases, great_circular, is_integer, small_cases,
)
from plain import beats, is_transitive, residues, reversed_rows, subsets
from wrong import NO_PLAYER, NO_PLAYERS, NO_TOURNAMENTS, name_of_refusal
from ringbeats.walks import accepts_shortest, is_walk, shortest_walk, walk_evidence

LEVELS = range(101)


def is_walk_by_words(tournament, value):
    """Point 75, for any value."""
    if type(value) is not tuple or not 1 <= len(value) <= 30:
        return False
    if not are_integers(value, len(value), range(len(tournament))):
        return False
    return all(beats(tournament, one, other) for one, other in zip(value, value[1:]))


def all_walks_from(tournament, one):
    """The walks of different players from the one, the shorter ones first, and then in the order of tuples."""
    found, newest = [], [(one,)]
    while newest:
        found += newest
        newest = [walk + (player,) for walk in newest for player in range(len(tournament))
                  if beats(tournament, walk[-1], player) and player not in walk]
    return found


def shortest(tournament, one, other):
    """The shortest walk, or None."""
    return next((walk for walk in all_walks_from(tournament, one) if walk[-1] == other), None)


def are_levels(tournament, one, value):
    """Point 77, for any value."""
    players = range(len(tournament))
    if not are_integers(value, len(tournament), LEVELS) or value[one] != 0:
        return False
    return all(value[y] <= value[x] + 1 for x, y in permutations(players, 2) if beats(tournament, x, y))


def is_closed_part(tournament, value):
    """Point 78, for any value."""
    if not exactly(value, subsets(len(tournament))[1:]):
        return False
    outside = [player for player in range(len(tournament)) if player not in value]
    return not any(beats(tournament, x, y) for x, y in product(value, outside))


def is_evidence(tournament, one, other, value):
    """Point 79, for any value."""
    if type(value) is not tuple or len(value) not in (2, 3) or type(value[0]) is not str:
        return False
    if value[0] == "walk" and len(value) == 3:
        walk, levels = value[1:]
        if not is_walk_by_words(tournament, walk) or (walk[0], walk[-1]) != (one, other):
            return False
        return are_levels(tournament, one, levels) and levels[other] == len(walk) - 1
    if value[0] == "none" and len(value) == 2:
        return is_closed_part(tournament, value[1]) and one in value[1] and other not in value[1]
    return False


def pairs_of(tournament):
    return product(range(len(tournament)), repeat=2)


class IsWalk(Same):
    def test_every_short_tuple(self):
        for tournament in small_cases(4):
            players = len(tournament)
            most = {1: 5, 2: 5, 3: 5, 4: 4}[players]
            for value in all_tuples(range(-1, players + 1) if players < 4 else range(players + 1), most):
                expected = bool(value) and all(0 <= player < players for player in value) and all(
                    beats(tournament, value[at], value[at + 1]) for at in range(len(value) - 1))
                self.assertSame(is_walk(tournament, value), expected)

    def test_of_1_to_30_players(self):
        for tournament in (THREE, WALKS, FOUR):
            for many in range(1, 35):
                value = tuple(at % 3 for at in range(many))
                self.assertSame(is_walk(tournament, value), many <= 30)
        self.assertSame(is_walk(THREE, ()), False)
        self.assertSame(is_walk(THREE, (0, 1, 2) * 10), True)
        self.assertSame(is_walk(THREE, (0, 1, 2) * 10 + (0,)), False)

    def test_each_step_of_a_long_walk_counts(self):
        walk = (0, 1, 2) * 10
        for at in range(30):
            for other in (-1, 0, 1, 2, 3):
                if other != walk[at]:
                    self.assertSame(is_walk(THREE, walk[:at] + (other,) + walk[at + 1:]), False)

    def test_of_eight_players(self):
        for order in (tuple(range(8)), (0, 7), (3, 5, 6), (7,)):
            self.assertSame(is_walk(EIGHT_IN_A_ROW, order), True)
        for order in (tuple(range(9)), (7, 0), (3, 5, 4), (8,), (0, 0), (0, 1, 1)):
            self.assertSame(is_walk(EIGHT_IN_A_ROW, order), False)

    def test_every_value_is_valid(self):
        for tournament in (ONE, TWO, ROW, THREE, BAD, EIGHT_IN_A_ROW):
            for walk in [(0,), (0, 1), (0, 1, 2)]:
                for value in changed(walk):
                    self.assertSame(is_walk(tournament, value), is_walk_by_words(tournament, value))
            for value in [*NO_TOURNAMENTS, *NO_PLAYERS]:
                self.assertSame(is_walk(tournament, value), is_walk_by_words(tournament, value))
        self.assertSame(is_walk(ROW, (0, True)), False)
        self.assertSame(is_walk(ROW, (False, 1)), False)
        self.assertSame(is_walk(ROW, [0, 1]), False)
        self.assertSame(is_walk(ONE, (False,)), False)

    def test_read_from_its_end_it_is_one_of_the_reversed_tournament(self):
        for tournament in small_cases(4):
            back = reversed_rows(tournament)
            for value in all_tuples(range(len(tournament)), 4):
                self.assertEqual(is_walk(tournament, value), is_walk(back, value[::-1]))

    def test_examples(self):
        self.assertSame(is_walk(WALKS, (0, 1, 2, 0, 1)), True)
        self.assertSame(is_walk(WALKS, (0, 2)), False)
        self.assertSame(is_walk(ONE, (0,)), True)
        self.assertSame(is_walk(ONE, (0, 0)), False)


class ShortestWalk(Same):
    def test_the_first_of_those_with_the_fewest_players(self):
        for tournament in [*all_cases(), *great_circular()]:
            for one in range(len(tournament)):
                walks = all_walks_from(tournament, one) if len(tournament) < 6 else None
                for other in range(len(tournament)):
                    expected = (shortest(tournament, one, other) if walks is None
                                else next((walk for walk in walks if walk[-1] == other), None))
                    self.assertSame(shortest_walk(tournament, one, other), expected)

    def test_walks_with_a_player_several_times_are_no_shorter(self):
        for tournament in small_cases(4):
            for one, other in pairs_of(tournament):
                told = shortest_walk(tournament, one, other)
                walks = [value for value in all_tuples(range(len(tournament)), 4)
                         if value and (value[0], value[-1]) == (one, other) and is_walk_by_words(tournament, value)]
                expected = min(walks, key=lambda walk: (len(walk), walk)) if walks else None
                self.assertSame(told, expected)

    def test_no_player_stands_in_it_twice(self):
        for tournament in all_cases():
            for one, other in pairs_of(tournament):
                walk = shortest_walk(tournament, one, other)
                if walk is not None:
                    self.assertEqual(len(set(walk)), len(walk))
                    self.assertEqual((walk[0], walk[-1]), (one, other))

    def test_if_all_results_are_turned_it_has_as_many_players(self):
        for tournament in [*small_cases(4), *great_cases(), *great_circular()]:
            back = reversed_rows(tournament)
            for one, other in pairs_of(tournament):
                walk, reverse = shortest_walk(tournament, one, other), shortest_walk(back, other, one)
                self.assertEqual(walk is None, reverse is None)
                if walk is not None:
                    self.assertEqual(len(walk), len(reverse))

    def test_in_a_circular_tournament_that_is_not_transitive_it_has_at_most_four_players(self):
        for tournament in great_circular():
            if not is_transitive(tournament):
                for one, other in pairs_of(tournament):
                    self.assertLessEqual(len(shortest_walk(tournament, one, other)), 4)

    def test_of_eight_players_in_eight(self):
        # Each beats the next one, and is beaten by all further on.
        rows = tuple(tuple(other for other in range(8) if other == one + 1 or other < one - 1) for one in range(8))
        self.assertSame(shortest_walk(rows, 0, 7), tuple(range(8)))
        self.assertSame(shortest_walk(rows, 7, 0), (7, 0))
        self.assertSame(shortest_walk(rows, 7, 6), (7, 5, 6))
        self.assertSame(walk_evidence(rows, 0, 7), ("walk", tuple(range(8)), tuple(range(8))))

    def test_examples_and_edges(self):
        self.assertSame(shortest_walk(WALKS, 0, 3), (0, 1, 2, 3))
        self.assertSame(shortest_walk(WALKS, 2, 2), (2,))
        self.assertSame(shortest_walk(ROW, 2, 0), None)
        self.assertSame(shortest_walk(ONE, 0, 0), (0,))
        self.assertSame(shortest_walk(TWO, 0, 1), (0, 1))
        self.assertSame(shortest_walk(TWO, 1, 0), None)
        self.assertSame(shortest_walk(EIGHT_IN_A_ROW, 0, 7), (0, 7))
        self.assertSame(shortest_walk(EIGHT_IN_A_ROW, 7, 7), (7,))
        self.assertSame(shortest_walk(EIGHT_IN_A_ROW, 7, 0), None)


class WalkEvidence(Same):
    def test_it_has_the_shortest_walk_and_is_accepted(self):
        for tournament in [*all_cases(), *great_circular()]:
            for one, other in pairs_of(tournament):
                told = walk_evidence(tournament, one, other)
                expected = shortest_walk(tournament, one, other)
                if expected is None:
                    self.assertEqual((told[0], len(told)), ("none", 2))
                else:
                    self.assertEqual((told[0], len(told)), ("walk", 3))
                    self.assertSame(told[1], expected)
                self.assertTrue(is_evidence(tournament, one, other, told), (tournament, one, other, told))
                self.assertSame(accepts_shortest(tournament, one, other, told), True)

    def test_examples_and_edges(self):
        self.assertSame(walk_evidence(ROW, 0, 2)[:2], ("walk", (0, 2)))
        self.assertSame(walk_evidence(ONE, 0, 0), ("walk", (0,), (0,)))
        self.assertSame(walk_evidence(TWO, 1, 0), ("none", (1,)))
        self.assertSame(walk_evidence(TWO, 0, 1), ("walk", (0, 1), (0, 1)))


class AcceptsShortest(Same):
    def test_every_walk_with_every_small_levels(self):
        for tournament in small_cases(3):
            players = len(tournament)
            for one, other in pairs_of(tournament):
                for walk in all_tuples(range(players), 4):
                    for levels in product(range(4), repeat=players):
                        value = ("walk", walk, levels)
                        expected = is_evidence(tournament, one, other, value)
                        self.assertSame(accepts_shortest(tournament, one, other, value), expected)

    def test_every_walk_of_four_with_some_levels(self):
        for tournament in [WALKS, BAD, ((2, 3), (0,), (1,), (1, 2)), ((1,), (2, 3), (0, 3), (0,))]:
            for one, other in [(0, 3), (1, 0), (3, 3), (2, 0)]:
                for walk in all_walks_from(tournament, one) + [(1,), (2, 0, 1, 2, 0)]:
                    for levels in product(range(4), repeat=4):
                        value = ("walk", walk, levels)
                        expected = is_evidence(tournament, one, other, value)
                        self.assertSame(accepts_shortest(tournament, one, other, value), expected)

    def test_every_part(self):
        for tournament in [*small_cases(4), *list(great_cases())[::4], EIGHT_IN_A_ROW]:
            pairs = list(pairs_of(tournament))
            for one, other in pairs[::3] if len(tournament) > 4 else pairs:
                for part in subsets(len(tournament)):
                    expected = is_evidence(tournament, one, other, ("none", part))
                    self.assertSame(accepts_shortest(tournament, one, other, ("none", part)), expected)

    def test_the_part_of_all_players(self):
        for tournament in (ONE, ROW, THREE, EIGHT_IN_A_ROW):
            everyone = tuple(range(len(tournament)))
            for one, other in pairs_of(tournament):
                self.assertSame(accepts_shortest(tournament, one, other, ("none", everyone)), False)

    def test_levels_from_0_to_100(self):
        # The last player beats all others, and none beats it: its number can be any.
        tournament = ((1,), (), (0, 1))
        for number in (0, 1, 2, 99, 100):
            self.assertSame(accepts_shortest(tournament, 0, 1, ("walk", (0, 1), (0, 1, number))), True)
        for number in (-1, -2, 101, 10**30, True, False, None, "0", (0,)):
            self.assertSame(accepts_shortest(tournament, 0, 1, ("walk", (0, 1), (0, 1, number))), False)

    def test_levels_of_unequal_steps(self):
        self.assertSame(accepts_shortest(WALKS, 0, 3, ("walk", (0, 1, 2, 3), (0, 1, 2, 4))), False)
        self.assertSame(accepts_shortest(WALKS, 0, 3, ("walk", (0, 1, 2, 3), (0, 1, 1, 2))), False)
        self.assertSame(accepts_shortest(WALKS, 0, 3, ("walk", (0, 1, 2, 3), (0, 1, 3, 3))), False)
        self.assertSame(accepts_shortest(WALKS, 0, 3, ("walk", (0, 1, 2, 3), (1, 1, 2, 3))), False)
        self.assertSame(accepts_shortest(WALKS, 0, 0, ("walk", (0, 1, 2, 0), (0, 1, 2, 3))), False)
        self.assertSame(accepts_shortest(WALKS, 0, 0, ("walk", (0,), (0, 0, 0, 0))), True)
        self.assertSame(accepts_shortest(WALKS, 0, 0, ("walk", (0,), (0, 1, 2, 3))), True)
        self.assertSame(accepts_shortest(WALKS, 2, 1, ("walk", (2, 0, 1), (1, 2, 0, 1))), True)
        self.assertSame(accepts_shortest(WALKS, 2, 1, ("walk", (2, 3, 1), (1, 2, 0, 1))), True)

    def test_what_is_accepted_is_so(self):
        for tournament in small_cases(3):
            for one, other in pairs_of(tournament):
                expected = shortest(tournament, one, other)
                words = set()
                for walk in all_tuples(range(len(tournament)), 4):
                    for levels in product(range(3), repeat=len(tournament)):
                        if accepts_shortest(tournament, one, other, ("walk", walk, levels)):
                            words.add(("walk", len(walk)))
                for part in subsets(len(tournament)):
                    if accepts_shortest(tournament, one, other, ("none", part)):
                        words.add(("none", 0))
                self.assertEqual(words, {("none", 0)} if expected is None else {("walk", len(expected))})

    def test_a_closed_part_is_not_left(self):
        for tournament in [*small_cases(4), *great_cases()]:
            for part in subsets(len(tournament))[1:]:
                if is_closed_part(tournament, part):
                    for one in part:
                        for other in set(range(len(tournament))) - set(part):
                            self.assertIs(accepts_shortest(tournament, one, other, ("none", part)), True)
                            self.assertIsNone(shortest_walk(tournament, one, other))

    def test_each_part_of_the_evidence_changed(self):
        cases = [(ONE, 0, 0), (TWO, 0, 1), (TWO, 1, 0), (ROW, 0, 2), (ROW, 2, 0), (ROW, 1, 0), (THREE, 0, 2),
                 (THREE, 1, 1), (WALKS, 0, 3), (BAD, 1, 0), (BAD, 0, 3), (EIGHT_IN_A_ROW, 6, 0), (residues(7), 0, 3)]
        for tournament, one, other in cases:
            told = walk_evidence(tournament, one, other)
            self.assertSame(accepts_shortest(tournament, one, other, told), True)
            for value in changed(told):
                expected = is_evidence(tournament, one, other, value)
                self.assertSame(accepts_shortest(tournament, one, other, value), expected)

    def test_evidence_for_other_players(self):
        for tournament in (ROW, THREE, WALKS, BAD):
            pairs = list(pairs_of(tournament))
            for (one, other), (first, last) in product(pairs, pairs):
                told = walk_evidence(tournament, first, last)
                expected = is_evidence(tournament, one, other, told)
                self.assertSame(accepts_shortest(tournament, one, other, told), expected)

    def test_every_value_is_valid(self):
        for tournament in (ONE, ROW, THREE):
            for value in [*NO_PLAYERS, *NO_TOURNAMENTS]:
                self.assertSame(accepts_shortest(tournament, 0, 0, value), False)
                self.assertSame(accepts_shortest(tournament, 0, 0, ("none", value)), False)
                self.assertSame(accepts_shortest(tournament, 0, 0, (value, (0,), (0, 1, 2))), False)
                expected = is_evidence(tournament, 0, 0, ("walk", (0,), value))
                self.assertSame(accepts_shortest(tournament, 0, 0, ("walk", (0,), value)), expected)
                expected = is_evidence(tournament, 0, 0, ("walk", value, (0, 1, 2)))
                self.assertSame(accepts_shortest(tournament, 0, 0, ("walk", value, (0, 1, 2))), expected)
        self.assertSame(accepts_shortest(TWO, 1, 0, ("none", (True,))), False)
        self.assertSame(accepts_shortest(TWO, 1, 0, ("none", (1,))), True)
        self.assertSame(accepts_shortest(TWO, 1, 0, ("none", [1])), False)
        self.assertSame(accepts_shortest(TWO, 1, 0, ("walk", (1,))), False)
        self.assertSame(accepts_shortest(TWO, 0, 1, ("none", (0, 1), (0, 1))), False)

    def test_examples(self):
        self.assertSame(accepts_shortest(WALKS, 0, 3, ("walk", (0, 1, 2, 3), (0, 1, 2, 3))), True)
        self.assertSame(accepts_shortest(WALKS, 2, 1, ("walk", (2, 3, 0, 1), (0, 0, 0, 0))), False)
        self.assertSame(accepts_shortest(ROW, 2, 0, ("none", (1, 2))), True)


class Refusals(unittest.TestCase):
    """Point 85, with point 8."""

    def calls(self, tournament, one, other):
        yield name_of_refusal(shortest_walk, tournament, one, other)
        yield name_of_refusal(walk_evidence, tournament, one, other)
        for value in (None, ("none", (0,)), ("walk", (0,), (0,))):
            yield name_of_refusal(accepts_shortest, tournament, one, other, value)

    def test_what_is_no_tournament_alone_and_with_anything_behind_it(self):
        for value in NO_TOURNAMENTS:
            for walk in [(0,), (0, 1), (), None, True, [0]]:
                self.assertEqual(name_of_refusal(is_walk, value, walk), "tournament", (value, walk))
            for one, other in product([0, 1, -1, 9, None, True, (0,)], repeat=2):
                self.assertEqual(set(self.calls(value, one, other)), {"tournament"}, (value, one, other))

    def test_what_is_not_the_one_player_alone_and_with_anything_behind_it(self):
        for tournament in (ROW, THREE):
            for one in NO_PLAYER:
                for other in [0, 2, 3, -1, None, True, (0,), [0]]:
                    self.assertEqual(set(self.calls(tournament, one, other)), {"one"}, (one, other))
        for tournament, one in ((ONE, 1), (ONE, -1), (ONE, False), (BAD, 4), (EIGHT_IN_A_ROW, 8)):
            self.assertEqual(set(self.calls(tournament, one, 0)), {"one"})

    def test_what_is_not_the_other_player(self):
        for tournament in (ROW, THREE):
            for other in NO_PLAYER:
                for one in (0, 1, 2):
                    self.assertEqual(set(self.calls(tournament, one, other)), {"other"}, (one, other))
        for tournament, other in ((ONE, 1), (ONE, -1), (ONE, False), (BAD, 4), (EIGHT_IN_A_ROW, 8)):
            self.assertEqual(set(self.calls(tournament, 0, other)), {"other"})

    def test_all_players_are_right(self):
        for one, other in combinations(range(8), 2):
            self.assertEqual(shortest_walk(EIGHT_IN_A_ROW, one, other), (one, other))


class NothingIsKept(unittest.TestCase):
    """Point 2."""

    def test_equal_calls_have_equal_results(self):
        for _ in range(2):
            self.assertEqual([shortest_walk(WALKS, 0, 3), shortest_walk(ROW, 2, 0)], [(0, 1, 2, 3), None])
            self.assertEqual(walk_evidence(TWO, 1, 0), ("none", (1,)))

    def test_judged_lists_stay_as_they_were(self):
        walk, judged = [0, 1, 0], ["walk", [0, 1], [0, 1, 1]]
        is_walk(THREE, walk)
        accepts_shortest(THREE, 0, 1, judged)
        accepts_shortest(THREE, 0, 1, tuple(judged))
        self.assertEqual((walk, judged), ([0, 1, 0], ["walk", [0, 1], [0, 1, 1]]))


class Kinds(unittest.TestCase):
    """What these tests compare with tells True from 1."""

    def test_integers(self):
        self.assertEqual([is_integer(value) for value in (0, 1, True, False, None, "1")], [True, True] + [False] * 4)
        self.assertFalse(is_closed_part(TWO, (True,)))


if __name__ == "__main__":
    unittest.main()
