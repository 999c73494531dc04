"""Points 7, 19 to 21 and 24 to 28, with 2, 3, 4 and 8: transitive tournaments, and tournaments made from others."""

import unittest
from itertools import combinations, permutations, product

from cases import (
    BAD, EIGHT_IN_A_ROW, FOUR, ONE, ROW, THREE, TWO, Same, all_cases, all_tuples, changed, exactly, great_cases,
    in_a_row, small_cases, some_orders,
)
from plain import (
    all_obstructions, all_orders, all_places, all_triangles, all_twins, beats, circular_tournaments, is_transitive,
    renamed_rows, restricted_rows, reversed_rows, subsets, tournament_of,
)
from wrong import NO_ORDERS, NO_PLAYERS, NO_TOURNAMENTS, name_of_refusal
from ringbeats.rings import beaten
from ringbeats.tournaments import count_triangles, is_tournament, obstruction, triangles, twins
from ringbeats.transitive import (
    accepts_order, has_order, order_evidence, renamed, restricted, reversed_results, scores,
)


def all_evidence(tournament):
    """All that the document accepts as evidence about the tournament."""
    orders = [("order", order) for order in all_orders(tournament)]
    return orders + [("triangle", triangle) for triangle in all_triangles(tournament)]


class Scores(Same):
    def test_how_many_each_one_beats(self):
        for tournament in all_cases():
            players = range(len(tournament))
            expected = tuple(sum(beats(tournament, one, other) for other in players) for one in players)
            self.assertSame(scores(tournament), expected)

    def test_what_they_make_up_and_the_number_of_the_triangles(self):
        for tournament in all_cases():
            n = len(tournament)
            told = scores(tournament)
            self.assertEqual(sum(told), n * (n - 1) // 2)
            threes = len(list(combinations(range(n), 3)))
            pairs = sum(len(list(combinations(range(score), 2))) for score in told)
            self.assertEqual(threes - pairs, len(all_triangles(tournament)))
            self.assertEqual(threes - pairs, count_triangles(tournament))

    def test_examples_and_edges(self):
        self.assertSame(scores(FOUR), (1, 1, 1, 3))
        self.assertSame(scores(ONE), (0,))
        self.assertSame(scores(((), (0,))), (0, 1))
        self.assertSame(scores(EIGHT_IN_A_ROW), (7, 6, 5, 4, 3, 2, 1, 0))


class HasOrder(Same):
    def test_without_a_triangle(self):
        for tournament in all_cases():
            self.assertSame(has_order(tournament), not all_triangles(tournament))

    def test_with_an_order_and_only_one(self):
        for tournament in small_cases(5):
            self.assertEqual(len(all_orders(tournament)), 1 if has_order(tournament) else 0)

    def test_with_different_scores(self):
        for tournament in all_cases():
            told = scores(tournament)
            self.assertEqual(has_order(tournament), len(set(told)) == len(told))

    def test_as_many_as_orders(self):
        for players, many in ((1, 1), (2, 2), (3, 6), (4, 24), (5, 120)):
            found = [tournament for tournament in small_cases(5) if len(tournament) == players]
            self.assertEqual(sum(has_order(tournament) for tournament in found), many)

    def test_edges(self):
        for tournament in (ONE, TWO, ROW, EIGHT_IN_A_ROW, in_a_row((7, 0, 3, 5, 1, 6, 2, 4))):
            self.assertSame(has_order(tournament), True)
        for tournament in (THREE, FOUR, BAD):
            self.assertSame(has_order(tournament), False)
        # One result turned makes the only triangle of eight players.
        rows = [list(row) for row in EIGHT_IN_A_ROW]
        rows[5].remove(7)
        rows[7].append(5)
        self.assertSame(has_order(tuple(tuple(row) for row in rows)), False)


class OrderEvidence(Same):
    def test_the_order_or_the_first_triangle(self):
        for tournament in small_cases(5):
            self.assertSame(order_evidence(tournament), all_evidence(tournament)[0])
        for tournament in great_cases():
            if not is_transitive(tournament):
                self.assertSame(order_evidence(tournament), ("triangle", all_triangles(tournament)[0]))

    def test_the_order_of_every_five_and_of_some_eight(self):
        for order in [*permutations(range(5)), *some_orders(6), *some_orders(7), *some_orders(8)]:
            self.assertSame(order_evidence(in_a_row(order)), ("order", order))

    def test_it_is_accepted(self):
        for tournament in all_cases():
            self.assertSame(accepts_order(tournament, order_evidence(tournament)), True)

    def test_examples_and_edges(self):
        self.assertSame(order_evidence(FOUR), ("triangle", (0, 1, 2)))
        self.assertSame(order_evidence(((), (0, 2), (0,))), ("order", (1, 2, 0)))
        self.assertSame(order_evidence(ONE), ("order", (0,)))
        self.assertSame(order_evidence(((), (0,))), ("order", (1, 0)))
        self.assertSame(order_evidence(((2,), (0,), (1,))), ("triangle", (0, 2, 1)))


class AcceptsOrder(Same):
    def test_every_tuple_of_players_up_to_one_too_many(self):
        for tournament in small_cases(4):
            players = len(tournament)
            expected = {repr(value) for value in all_evidence(tournament)}
            for told in all_tuples(range(-1, players + 1), min(players + 1, 4)):
                for word in ("order", "triangle"):
                    value = (word, told)
                    self.assertSame(accepts_order(tournament, value), repr(value) in expected)

    def test_every_order_and_triangle_of_five(self):
        for tournament in list(small_cases(5))[-1024::7]:
            expected = {repr(value) for value in all_evidence(tournament)}
            for value in [("order", order) for order in permutations(range(5))]:
                self.assertSame(accepts_order(tournament, value), repr(value) in expected)
            for value in [("triangle", three) for three in product(range(5), repeat=3)]:
                self.assertSame(accepts_order(tournament, value), repr(value) in expected)

    def test_evidence_of_exactly_one_word(self):
        for tournament in small_cases(4):
            words = set()
            for order in permutations(range(len(tournament))):
                if accepts_order(tournament, ("order", order)):
                    words.add("transitive")
            for three in product(range(len(tournament)), repeat=3):
                if accepts_order(tournament, ("triangle", three)):
                    words.add("not")
            self.assertEqual(words, {"transitive"} if is_transitive(tournament) else {"not"})

    def test_two_players_of_eight_exchanged_in_the_order(self):
        order = (7, 0, 3, 5, 1, 6, 2, 4)
        tournament = in_a_row(order)
        self.assertSame(accepts_order(tournament, ("order", order)), True)
        for one, other in combinations(range(8), 2):
            exchanged = list(order)
            exchanged[one], exchanged[other] = order[other], order[one]
            self.assertSame(accepts_order(tournament, ("order", tuple(exchanged))), False)

    def test_each_part_of_the_evidence_changed(self):
        for tournament in (ONE, TWO, ROW, THREE, FOUR, BAD, ((2,), (0,), (1,)), ((), (0,)), EIGHT_IN_A_ROW):
            allowed = [order_evidence(tournament)] if has_order(tournament) else all_evidence(tournament)
            for told in allowed:
                for value in changed(told):
                    self.assertSame(accepts_order(tournament, value), exactly(value, allowed))

    def test_other_words_and_values(self):
        for word in ("Order", "orders", "", "none", "triangle ", None, True, 0, ("order",), ["order"]):
            for told in ((0, 1, 2), (0,), (), None):
                for tournament in (ROW, THREE, ONE):
                    self.assertSame(accepts_order(tournament, (word, told)), False)
        self.assertSame(accepts_order(ROW, ["order", (0, 1, 2)]), False)
        self.assertSame(accepts_order(ROW, ("order", [0, 1, 2])), False)
        self.assertSame(accepts_order(ROW, ("order", (0, True, 2))), False)
        self.assertSame(accepts_order(ROW, ("order", (False, 1, 2))), False)
        self.assertSame(accepts_order(THREE, ("triangle", (False, 1, 2))), False)
        self.assertSame(accepts_order(ROW, ("order", 0, 1, 2)), False)

    def test_examples(self):
        self.assertSame(accepts_order(FOUR, ("triangle", (1, 2, 0))), False)
        self.assertSame(accepts_order(FOUR, ("triangle", (0, 1, 2))), True)
        self.assertSame(accepts_order(ONE, ("order", (0,))), True)
        self.assertSame(accepts_order(ONE, ("order", ())), False)


class Reversed(Same):
    def test_all_results_are_turned(self):
        for tournament in all_cases():
            self.assertSame(reversed_results(tournament), reversed_rows(tournament))
            self.assertSame(reversed_results(reversed_results(tournament)), tournament)

    def test_triangles_twins_and_obstructions_of_the_same_players(self):
        for tournament in all_cases():
            turned = reversed_results(tournament)
            self.assertEqual(triangles(turned), sorted((x, z, y) for x, y, z in triangles(tournament)))
            self.assertEqual(twins(turned), twins(tournament))
            self.assertEqual(
                {frozenset(four) for four in all_obstructions(turned)},
                {frozenset(four) for four in all_obstructions(tournament)},
            )
            self.assertEqual(has_order(turned), has_order(tournament))

    def test_examples_and_edges(self):
        self.assertSame(reversed_results(FOUR), ((2, 3), (0, 3), (1, 3), ()))
        self.assertSame(reversed_results(ONE), ((),))
        self.assertSame(reversed_results(EIGHT_IN_A_ROW), in_a_row((7, 6, 5, 4, 3, 2, 1, 0)))


class Restricted(Same):
    def test_the_results_between_the_players_stay(self):
        for tournament in [*small_cases(4), *great_cases()]:
            for players in subsets(len(tournament))[1:]:
                self.assertSame(restricted(tournament, players), restricted_rows(tournament, players))

    def test_what_it_is_by_the_words(self):
        for tournament in small_cases(5):
            for players in subsets(len(tournament))[1:]:
                new = restricted(tournament, players)
                self.assertEqual(len(new), len(players))
                self.assertTrue(is_tournament(new))
                for one, other in combinations(range(len(players)), 2):
                    self.assertEqual(beats(new, one, other), beats(tournament, players[one], players[other]))

    def test_triangles_obstructions_and_twins_among_the_players_stay(self):
        for tournament in [*small_cases(4), *list(small_cases(5))[::9], BAD, FOUR]:
            for players in subsets(len(tournament))[1:]:
                new = restricted(tournament, players)
                for find in (all_triangles, all_obstructions):
                    named = [tuple(players[at] for at in found) for found in find(new)]
                    self.assertEqual(named, [found for found in find(tournament) if set(found) <= set(players)])
                among = [pair for pair in all_twins(tournament) if set(pair) <= set(players)]
                self.assertLessEqual(set(among), {(players[one], players[other]) for one, other in twins(new)})

    def test_transitive_and_circular_ones_stay_so(self):
        for tournament in small_cases(5):
            circular = tournament in circular_tournaments(len(tournament))
            for players in subsets(len(tournament))[1:]:
                new = restricted(tournament, players)
                if has_order(tournament):
                    self.assertTrue(has_order(new))
                if circular:
                    self.assertIn(new, circular_tournaments(len(new)))
                    self.assertIsNone(obstruction(new))

    def test_examples_and_edges(self):
        self.assertSame(restricted(FOUR, (0, 1, 3)), ((1,), (), (0, 1)))
        self.assertSame(restricted(FOUR, (0, 1, 2)), THREE)
        self.assertSame(restricted(ONE, (0,)), ONE)
        for tournament in (FOUR, BAD, EIGHT_IN_A_ROW):
            self.assertSame(restricted(tournament, tuple(range(len(tournament)))), tournament)
            for player in range(len(tournament)):
                self.assertSame(restricted(tournament, (player,)), ONE)


class Renamed(Same):
    def test_every_order_of_up_to_four_and_some_of_more(self):
        for tournament in small_cases(4):
            for order in permutations(range(len(tournament))):
                self.assertSame(renamed(tournament, order), renamed_rows(tournament, order))
        for tournament in [*list(small_cases(5))[-1024::5], *great_cases()]:
            for order in some_orders(len(tournament)):
                self.assertSame(renamed(tournament, order), renamed_rows(tournament, order))

    def test_what_it_is_by_the_words(self):
        for tournament in small_cases(4):
            for order in permutations(range(len(tournament))):
                new = renamed(tournament, order)
                for x, y in permutations(range(len(tournament)), 2):
                    self.assertEqual(beats(new, order[x], order[y]), beats(tournament, x, y))

    def test_a_transitive_one_comes_into_its_order(self):
        for order in permutations(range(4)):
            self.assertSame(renamed(in_a_row((0, 1, 2, 3)), order), in_a_row(order))
            self.assertSame(order_evidence(renamed(in_a_row((0, 1, 2, 3)), order)), ("order", order))

    def test_examples_and_edges(self):
        self.assertSame(renamed(THREE, (0, 2, 1)), ((2,), (0,), (1,)))
        self.assertSame(renamed(THREE, (1, 2, 0)), THREE)
        self.assertSame(renamed(ROW, (1, 2, 0)), ((), (0, 2), (0,)))
        self.assertSame(renamed(ONE, (0,)), ONE)
        self.assertSame(renamed(EIGHT_IN_A_ROW, tuple(range(8))), EIGHT_IN_A_ROW)


class OfPlaces(Same):
    """Point 27."""

    def test_restricted_places_have_the_restricted_tournament(self):
        for ring, many in ((3, 3), (5, 3), (5, 4), (7, 4)):
            for places in all_places(ring, many):
                for players in subsets(many)[1:]:
                    some = tuple(places[player] for player in players)
                    self.assertEqual(beaten(ring, some), restricted(tournament_of(ring, places), players))

    def test_renamed_places_have_the_renamed_tournament(self):
        for ring, many in ((3, 3), (5, 3), (5, 4)):
            for places in all_places(ring, many):
                for order in permutations(range(many)):
                    new = tuple(places[order.index(player)] for player in range(many))
                    self.assertEqual(beaten(ring, new), renamed(tournament_of(ring, places), order))


class Refusals(unittest.TestCase):
    """Point 28, with point 8."""

    def test_what_is_no_tournament_alone_and_with_anything_behind_it(self):
        for value in NO_TOURNAMENTS:
            for call in (has_order, order_evidence, scores, reversed_results):
                self.assertEqual(name_of_refusal(call, value), "tournament", (call, value))
            for second in [("order", (0, 1)), (0,), (0, 1), (0, 1, 2), (), None, True, [0], (5, 3)]:
                for call in (accepts_order, restricted, renamed):
                    self.assertEqual(name_of_refusal(call, value, second), "tournament", (call, value, second))

    def test_what_are_no_players(self):
        for tournament in (ROW, THREE):
            for players in [(), *NO_PLAYERS]:
                self.assertEqual(name_of_refusal(restricted, tournament, players), "players", players)
        for players in [(8,), (0, 8), tuple(range(9)), (-1, 7), (7, 6)]:
            self.assertEqual(name_of_refusal(restricted, EIGHT_IN_A_ROW, players), "players", players)
        for players in [(1,), (-1,), (0, 0), (0, 1)]:
            self.assertEqual(name_of_refusal(restricted, ONE, players), "players", players)

    def test_what_is_no_order(self):
        for tournament in (ROW, THREE):
            for order in NO_ORDERS:
                self.assertEqual(name_of_refusal(renamed, tournament, order), "order", order)
        for order in [(), (1,), (False,), (0, 0), (0, 1)]:
            self.assertEqual(name_of_refusal(renamed, ONE, order), "order", order)
        for order in [tuple(range(7)), tuple(range(9)), (0, *range(7)), tuple(range(1, 9))]:
            self.assertEqual(name_of_refusal(renamed, EIGHT_IN_A_ROW, order), "order", order)

    def test_every_value_is_valid_as_what_is_judged(self):
        for value in [*NO_TOURNAMENTS, *NO_PLAYERS, *NO_ORDERS]:
            self.assertIs(accepts_order(ROW, value), False)
            self.assertIs(accepts_order(ROW, ("order", value)), False)
            self.assertIs(accepts_order(THREE, ("triangle", value)), False)


class NothingIsKept(unittest.TestCase):
    """Point 2."""

    def test_equal_calls_have_equal_results(self):
        for _ in range(2):
            self.assertEqual(order_evidence(FOUR), ("triangle", (0, 1, 2)))
            self.assertEqual(order_evidence(ROW), ("order", (0, 1, 2)))
            self.assertEqual(restricted(FOUR, (0, 3)), ((), (0,)))

    def test_judged_lists_stay_as_they_were(self):
        judged = ["order", [2, 1, 0]]
        accepts_order(ROW, judged)
        accepts_order(ROW, tuple(judged))
        order = [2, 1, 0]
        name_of_refusal(renamed, ROW, order)
        name_of_refusal(restricted, ROW, order)
        self.assertEqual((judged, order), (["order", [2, 1, 0]], [2, 1, 0]))


if __name__ == "__main__":
    unittest.main()
