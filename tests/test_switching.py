"""Points 63 to 74, with 2 to 5, 7, 8 and 26: switching."""

import unittest
from itertools import combinations, permutations, product

from cases import (
    BAD, EIGHT_IN_A_ROW, FOUR, ONE, ROW, THREE, TWO, WALKS, Same, all_cases, changed, exactly, great_cases,
    great_circular, in_a_row, small_cases, some_orders,
)
from plain import (
    all_obstructions, all_tournaments, all_twins, beats, circular_tournaments, is_transitive, renamed_rows,
    reversed_rows, subsets, switched_rows, tournament_of,
)
from wrong import NO_ORDERS, NO_PLAYERS, NO_TOURNAMENTS, name_of_refusal
from ringbeats.errors import NotPossible
from ringbeats.switching import accepts_way, close, renamings, straightening, switched, ways
from ringbeats.transitive import has_order, order_evidence


def all_ways(tournament, other):
    """The ways, by trying every order and every set of players."""
    found = []
    for players in subsets(len(tournament)):
        new = switched_rows(tournament, players)
        for order in permutations(range(len(tournament))):
            if renamed_rows(new, order) == other:
                found.append((order, players))
    return sorted(found)


def all_close(tournament):
    """The close pairs, by what each further player does."""
    found = []
    for one, other in combinations(range(len(tournament)), 2):
        further = [player for player in range(len(tournament)) if player not in (one, other)]
        counts = [beats(tournament, player, one) + beats(tournament, player, other) for player in further]
        if all(count != 1 for count in counts) or all(count == 1 for count in counts):
            found.append((one, other))
    return found


def same_size(players):
    """Pairs of tournaments with so many players: each with some of them that are circular and some that are not."""
    every = list(all_tournaments(players))
    return product(every, every[::5] if players == 4 else every)


class Switched(Same):
    def test_every_set(self):
        for tournament in [*small_cases(4), *list(small_cases(5))[-1024::9], *great_cases()]:
            for players in subsets(len(tournament)):
                self.assertSame(switched(tournament, players), switched_rows(tournament, players))

    def test_by_the_words(self):
        for tournament in [*small_cases(4), EIGHT_IN_A_ROW]:
            for players in subsets(len(tournament)):
                new = switched(tournament, players)
                for one, other in permutations(range(len(tournament)), 2):
                    stays = (one in players) == (other in players)
                    self.assertEqual(beats(new, one, other) == beats(tournament, one, other), stays)

    def test_one_set_and_then_another_one(self):
        for tournament in [*small_cases(4), BAD, EIGHT_IN_A_ROW]:
            sets = subsets(len(tournament))
            for players, others in product(sets[:20], sets[::3]):
                exactly_one = tuple(sorted(set(players) ^ set(others)))
                twice = switched(switched(tournament, players), others)
                self.assertSame(twice, switched(tournament, exactly_one))

    def test_two_sets_that_do_the_same(self):
        for tournament in [*small_cases(4), WALKS, BAD, FOUR, *list(great_circular())[::8]]:
            everyone = set(range(len(tournament)))
            sets = subsets(len(tournament))
            results = {players: switched(tournament, players) for players in sets}
            for players, others in product(sets, sets):
                same = players == others or set(players) == everyone - set(others)
                self.assertEqual(results[players] == results[others], same)

    def test_circular_ones_stay_circular_and_others_do_not_become_so(self):
        for tournament in [*small_cases(4), *list(small_cases(5))[::7], *great_cases(), *great_circular()]:
            circular = all_obstructions(tournament) == []
            for players in subsets(len(tournament))[::3]:
                self.assertEqual(all_obstructions(switched(tournament, players)) == [], circular)

    def test_examples_and_edges(self):
        self.assertSame(switched(ROW, (0,)), ((), (0, 2), (0,)))
        self.assertSame(switched(ROW, (1,)), ((2,), (0,), (1,)))
        self.assertSame(order_evidence(switched(ROW, (0,))), ("order", (1, 2, 0)))
        self.assertSame(has_order(switched(ROW, (1,))), False)
        self.assertSame(switched(ONE, ()), ONE)
        self.assertSame(switched(ONE, (0,)), ONE)
        self.assertSame(switched(TWO, (0,)), ((), (0,)))
        self.assertSame(switched(TWO, (1,)), ((), (0,)))
        for tournament in (TWO, ROW, THREE, BAD, FOUR, EIGHT_IN_A_ROW):
            self.assertSame(switched(tournament, ()), tournament)
            self.assertSame(switched(tournament, tuple(range(len(tournament)))), tournament)
        self.assertSame(switched(EIGHT_IN_A_ROW, (0,)), in_a_row((1, 2, 3, 4, 5, 6, 7, 0)))
        self.assertSame(switched(EIGHT_IN_A_ROW, (7,)), in_a_row((7, 0, 1, 2, 3, 4, 5, 6)))


class Straightening(Same):
    def test_the_sets_by_which_it_becomes_transitive(self):
        for tournament in [*small_cases(4), *list(small_cases(5))[-1024::6], *great_circular()]:
            expected = [players for players in subsets(len(tournament))
                        if is_transitive(switched_rows(tournament, players))]
            self.assertSame(straightening(tournament), expected)

    def test_as_many_as_twice_the_players_or_none(self):
        for tournament in [*all_cases(), *great_circular()]:
            circular = all_obstructions(tournament) == []
            self.assertEqual(len(straightening(tournament)), 2 * len(tournament) if circular else 0)

    def test_one_winner_after_another(self):
        for tournament in [*small_cases(4), *great_circular()]:
            expected = straightening(tournament)
            if expected:
                players, found = set(expected[0]), []
                for _ in range(2 * len(tournament)):
                    found.append(tuple(sorted(players)))
                    straight = switched(tournament, found[-1])
                    winner = order_evidence(straight)[1][0]
                    players ^= {winner}
                    if len(tournament) > 1:
                        self.assertEqual(switched(straight, (winner,))[winner], ())
                self.assertEqual(tuple(sorted(players)), expected[0])
                self.assertEqual(sorted(found), expected)

    def test_each_player_is_in_half_of_them(self):
        for tournament in [*small_cases(4), *great_circular()]:
            sets = straightening(tournament)
            for player in range(len(tournament)):
                self.assertEqual(2 * sum(player in players for players in sets), len(sets))

    def test_examples_and_edges(self):
        self.assertSame(straightening(ROW), [(), (0,), (0, 1), (0, 1, 2), (1, 2), (2,)])
        self.assertSame(straightening(BAD), [])
        self.assertSame(straightening(ONE), [(), (0,)])
        self.assertSame(straightening(TWO), [(), (0,), (0, 1), (1,)])
        self.assertSame(straightening(THREE), [(0,), (0, 1), (0, 2), (1,), (1, 2), (2,)])
        beginnings = [tuple(range(many)) for many in range(9)]
        endings = [tuple(range(many, 8)) for many in range(1, 8)]
        self.assertSame(straightening(EIGHT_IN_A_ROW), beginnings + endings)


class Ways(Same):
    def test_all_between_tournaments_of_up_to_four_players(self):
        for players in (1, 2, 3, 4):
            circular = sorted(circular_tournaments(players))
            for tournament, other in product(circular[::3] if players == 4 else circular, circular[::7] or circular):
                expected = all_ways(tournament, other)
                self.assertEqual(len(expected), 2 * players)
                self.assertSame(ways(tournament, other), expected)

    def test_all_between_some_of_five_players(self):
        five = sorted(circular_tournaments(5))
        for tournament, other in product(five[::130], five[5::150]):
            self.assertSame(ways(tournament, other), all_ways(tournament, other))

    def test_of_up_to_eight_players(self):
        great = list(great_circular())
        for tournament, other in product(great, great):
            if len(tournament) == len(other):
                found = ways(tournament, other)
                self.assertEqual(len(found), 2 * len(tournament))
                self.assertEqual(found, sorted(set(found)))
                for order, players in found:
                    self.assertEqual(sorted(order), list(range(len(tournament))))
                    self.assertEqual(renamed_rows(switched_rows(tournament, players), order), other)
                    self.assertIs(accepts_way(tournament, other, (order, players)), True)

    def test_a_way_back(self):
        for tournament, other in ((THREE, ROW), (ROW, ROW), (WALKS, in_a_row((3, 1, 0, 2)))):
            back = []
            for order, players in ways(tournament, other):
                was = tuple(order.index(player) for player in range(len(order)))
                back.append((was, tuple(sorted(order[player] for player in players))))
            self.assertSame(ways(other, tournament), sorted(back))

    def test_one_way_behind_another_one(self):
        for one, two, three in product((THREE, ROW), (ROW, in_a_row((2, 0, 1))), (THREE, ROW)):
            for (order, players), (new_order, new_players) in product(ways(one, two), ways(two, three)):
                both = tuple(new_order[player] for player in order)
                changed_once = [player for player in range(3)
                                if (player in players) != (order[player] in new_players)]
                self.assertIn((both, tuple(changed_once)), ways(one, three))

    def test_examples_and_edges(self):
        self.assertSame(ways(THREE, ROW), [
            ((0, 2, 1), (0, 1)), ((0, 2, 1), (2,)), ((1, 0, 2), (0,)), ((1, 0, 2), (1, 2)), ((2, 1, 0), (0, 2)),
            ((2, 1, 0), (1,)),
        ])
        self.assertSame(ways(ONE, ONE), [((0,), ()), ((0,), (0,))])
        self.assertSame(ways(TWO, TWO), [((0, 1), ()), ((0, 1), (0, 1)), ((1, 0), (0,)), ((1, 0), (1,))])
        found = ways(EIGHT_IN_A_ROW, reversed_rows(EIGHT_IN_A_ROW))
        self.assertEqual(len(found), 16)
        self.assertIn((tuple(range(7, -1, -1)), ()), found)


class Renamings(Same):
    def test_all_orders_that_rename_it_to_the_other_one(self):
        for players in (1, 2, 3, 4):
            circular = sorted(circular_tournaments(players))
            for tournament, other in product(circular, circular):
                expected = [order for order in permutations(range(players))
                            if renamed_rows(tournament, order) == other]
                self.assertSame(renamings(tournament, other), expected)

    def test_they_are_the_ways_with_the_empty_set(self):
        great = list(great_circular())
        for tournament, other in [*zip(great, great), *product(great[::5], great[::5])]:
            if len(tournament) == len(other):
                expected = [order for order, players in ways(tournament, other) if players == ()]
                self.assertSame(renamings(tournament, other), expected)

    def test_their_number(self):
        for tournament in [*circular_tournaments(4), *circular_tournaments(5), *great_circular()]:
            many = len(renamings(tournament, tournament))
            self.assertEqual(many % 2, 1)
            self.assertEqual(len(tournament) % many, 0)
            for order in some_orders(len(tournament)):
                self.assertEqual(len(renamings(tournament, renamed_rows(tournament, order))), many)
        four = sorted(circular_tournaments(4))
        for tournament, other in product(four, four):
            self.assertIn(len(renamings(tournament, other)), (0, len(renamings(tournament, tournament))))

    def test_two_that_agree_about_one_player_are_equal(self):
        for tournament in [THREE, ROW, *circular_tournaments(4), *great_circular()]:
            for other in (tournament, renamed_rows(tournament, some_orders(len(tournament))[3])):
                for one, two in combinations(renamings(tournament, other), 2):
                    self.assertFalse(any(x == y for x, y in zip(one, two)))

    def test_examples_and_edges(self):
        self.assertSame(renamings(THREE, THREE), [(0, 1, 2), (1, 2, 0), (2, 0, 1)])
        self.assertSame(renamings(THREE, ROW), [])
        self.assertSame(renamings(ROW, ROW), [(0, 1, 2)])
        self.assertSame(renamings(THREE, reversed_rows(THREE)), [(0, 2, 1), (1, 0, 2), (2, 1, 0)])
        self.assertSame(renamings(ONE, ONE), [(0,)])
        self.assertSame(renamings(TWO, ((), (0,))), [(1, 0)])
        seven = tournament_of(7, tuple(range(7)))
        self.assertSame(renamings(seven, seven), [tuple((at + by) % 7 for at in range(7)) for by in range(7)])
        self.assertSame(renamings(EIGHT_IN_A_ROW, EIGHT_IN_A_ROW), [tuple(range(8))])


class AcceptsWay(Same):
    def test_every_order_and_every_set(self):
        for players in (1, 2, 3, 4):
            for tournament, other in same_size(players):
                if players == 4 and (tournament[0] != (1, 2, 3) or len(other[0]) != 2):
                    continue
                expected = all_ways(tournament, other)
                for value in product(permutations(range(players)), subsets(players)):
                    self.assertSame(accepts_way(tournament, other, value), value in expected)

    def test_tournaments_that_are_not_circular_have_ways_too(self):
        self.assertSame(accepts_way(BAD, BAD, ((0, 1, 2, 3), ())), True)
        self.assertSame(accepts_way(BAD, BAD, ((0, 2, 3, 1), (0, 1, 2, 3))), True)
        self.assertSame(accepts_way(BAD, FOUR, ((3, 0, 1, 2), ())), True)
        self.assertSame(accepts_way(BAD, FOUR, ((3, 0, 1, 2), (0,))), False)
        self.assertSame(accepts_way(BAD, reversed_rows(FOUR), ((3, 0, 2, 1), (0,))), True)
        self.assertSame(accepts_way(BAD, reversed_rows(FOUR), ((3, 0, 1, 2), (0,))), False)
        self.assertSame(accepts_way(BAD, ((), (0, 2), (0, 3), (0, 1)), ((0, 1, 2, 3), (0,))), True)
        for tournament in great_cases():
            players = tuple(range(0, len(tournament), 2))
            for order in some_orders(len(tournament)):
                other = renamed_rows(switched_rows(tournament, players), order)
                self.assertSame(accepts_way(tournament, other, (order, players)), True)
                self.assertSame(accepts_way(tournament, other, (order, players[1:])), False)

    def test_what_is_returned_and_each_part_of_it_changed(self):
        cases = [(ONE, ONE), (TWO, ((), (0,))), (THREE, ROW), (ROW, THREE), (THREE, THREE), (WALKS, WALKS)]
        for tournament, other in cases:
            allowed = all_ways(tournament, other)
            for told in allowed:
                self.assertSame(accepts_way(tournament, other, told), True)
                for value in changed(told):
                    self.assertSame(accepts_way(tournament, other, value), exactly(value, allowed))

    def test_every_value_is_valid(self):
        for value in [*NO_ORDERS, *NO_PLAYERS, *NO_TOURNAMENTS]:
            self.assertSame(accepts_way(ROW, THREE, value), False)
            self.assertSame(accepts_way(THREE, THREE, ((0, 1, 2), value)), value == () and type(value) is tuple)
            self.assertSame(accepts_way(THREE, THREE, (value, ())), False)
        self.assertSame(accepts_way(THREE, THREE, [(0, 1, 2), ()]), False)
        self.assertSame(accepts_way(THREE, THREE, ([0, 1, 2], ())), False)
        self.assertSame(accepts_way(THREE, THREE, ((0, 1, 2), [])), False)
        self.assertSame(accepts_way(THREE, THREE, ((0, 1, 2), (), ())), False)
        self.assertSame(accepts_way(THREE, THREE, ((0, 1, 2), (0, 1, 2))), True)
        self.assertSame(accepts_way(THREE, THREE, ((0, 1, 2), (2, 1, 0))), False)
        self.assertSame(accepts_way(THREE, THREE, ((0, 1, 2), (0, True, 2))), False)
        self.assertSame(accepts_way(THREE, THREE, ((False, 1, 2), ())), False)

    def test_examples(self):
        self.assertSame(accepts_way(THREE, ROW, ((1, 0, 2), (0,))), True)
        self.assertSame(accepts_way(THREE, ROW, ((0, 1, 2), ())), False)


class Close(Same):
    def test_the_pairs_ascending(self):
        for tournament in [*all_cases(), *great_circular()]:
            self.assertSame(close(tournament), all_close(tournament))

    def test_switching_keeps_them(self):
        for tournament in [*small_cases(4), *great_cases(), *great_circular()]:
            for players in subsets(len(tournament))[::3]:
                self.assertSame(close(switched(tournament, players)), close(tournament))

    def test_as_many_as_players_and_each_player_in_two(self):
        for tournament in [*circular_tournaments(3), *circular_tournaments(4), *circular_tournaments(5),
                           *great_circular()]:
            pairs = close(tournament)
            self.assertEqual(len(pairs), len(tournament))
            for player in range(len(tournament)):
                self.assertEqual(sum(player in pair for pair in pairs), 2)

    def test_twins_are_close(self):
        for tournament in all_cases():
            self.assertLessEqual(set(all_twins(tournament)), set(close(tournament)))

    def test_examples_and_edges(self):
        self.assertSame(close(ROW), [(0, 1), (0, 2), (1, 2)])
        self.assertSame(close(ONE), [])
        self.assertSame(close(TWO), [(0, 1)])
        self.assertSame(close(((), (0,))), [(0, 1)])
        self.assertSame(close(EIGHT_IN_A_ROW), [(0, 1), (0, 7), *((at, at + 1) for at in range(1, 7))])
        self.assertSame(close(BAD), [])


class Refusals(unittest.TestCase):
    """Point 73, with point 8."""

    def assertRefusesCircular(self, call, tournament, other):
        with self.assertRaises(NotPossible) as caught:
            call(tournament, other)
        self.assertEqual(caught.exception.why, "circular")

    def test_what_is_no_tournament_alone_and_with_anything_behind_it(self):
        for value in NO_TOURNAMENTS:
            for call in (straightening, close):
                self.assertEqual(name_of_refusal(call, value), "tournament", (call, value))
            for second in [(), (0,), (1, 0), None, True, [0], (9,), BAD, ONE, THREE, value]:
                for call in (switched, ways, renamings):
                    self.assertEqual(name_of_refusal(call, value, second), "tournament", (call, value, second))
                for third in [((0,), ()), None]:
                    self.assertEqual(name_of_refusal(accepts_way, value, second, third), "tournament", (value, second))

    def test_what_are_no_players(self):
        for tournament in (ROW, THREE):
            for players in NO_PLAYERS:
                self.assertEqual(name_of_refusal(switched, tournament, players), "players", players)
        for players in [(8,), (0, 8), tuple(range(9)), (-1, 7), (7, 6)]:
            self.assertEqual(name_of_refusal(switched, EIGHT_IN_A_ROW, players), "players", players)
        for players in [(1,), (-1,), (0, 0), (0, 1), (False,), [], None]:
            self.assertEqual(name_of_refusal(switched, ONE, players), "players", players)

    def test_what_is_no_other_tournament_with_as_many_players(self):
        for tournament in (ONE, TWO, ROW, THREE, BAD, FOUR, EIGHT_IN_A_ROW):
            sizes = [other for other in (ONE, TWO, ROW, BAD, FOUR, WALKS, EIGHT_IN_A_ROW, *great_cases())
                     if len(other) != len(tournament)]
            for other in sizes + NO_TOURNAMENTS:
                for call in (ways, renamings):
                    self.assertEqual(name_of_refusal(call, tournament, other), "other", (call, tournament, other))
                for value in [((0, 1, 2), ()), None, ()]:
                    self.assertEqual(name_of_refusal(accepts_way, tournament, other, value), "other", other)

    def test_not_circular(self):
        for call in (ways, renamings):
            for tournament in (BAD, FOUR):
                for other in (BAD, FOUR, WALKS, in_a_row((0, 1, 2, 3))):
                    self.assertRefusesCircular(call, tournament, other)
                    self.assertRefusesCircular(call, other, tournament)
            for tournament in great_cases():
                if all_obstructions(tournament):
                    row = in_a_row(tuple(range(len(tournament))))
                    self.assertRefusesCircular(call, tournament, tournament)
                    self.assertRefusesCircular(call, tournament, row)
                    self.assertRefusesCircular(call, row, tournament)

    def test_all_others_are_possible(self):
        for tournament, other in product(circular_tournaments(3), circular_tournaments(3)):
            self.assertEqual(len(ways(tournament, other)), 6)
            self.assertIsInstance(renamings(tournament, other), list)


class NothingIsKept(unittest.TestCase):
    """Point 2."""

    def test_a_returned_list_is_not_used_again(self):
        calls = [(straightening, ROW), (straightening, BAD), (close, ROW), (close, ONE), (ways, THREE, ROW),
                 (renamings, THREE, THREE), (renamings, THREE, ROW)]
        for call, *arguments in calls:
            first = call(*arguments)
            kept = list(first)
            first.append(None)
            first.reverse()
            self.assertEqual(call(*arguments), kept)
            self.assertIsNot(call(*arguments), call(*arguments))

    def test_judged_and_refused_lists_stay_as_they_were(self):
        judged, players = [[2, 1, 0], [1, 0]], [2, 0]
        accepts_way(ROW, THREE, judged)
        accepts_way(ROW, THREE, tuple(judged))
        name_of_refusal(switched, ROW, players)
        self.assertEqual((judged, players), ([[2, 1, 0], [1, 0]], [2, 0]))


if __name__ == "__main__":
    unittest.main()
