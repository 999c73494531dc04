"""Points 30 to 40, with 2, 3 and 8: signed orders."""

import unittest
from itertools import permutations, product

from cases import (
    BAD, EIGHT_IN_A_ROW, FOUR, ONE, ROW, THREE, TWO, WALKS, Same, changed, exactly, great_cases, great_circular,
    great_signed_orders, small_cases,
)
from plain import (
    all_obstructions, all_signed_orders, all_steps, all_turns, all_twins, beats, circular_tournaments, opposites,
    signed_orders_by_tournament, stood_for, subsets, switched_rows, ways_by_tournament,
)
from wrong import NO_PLAYER, NO_TOURNAMENTS, name_of_refusal
from ringbeats.signed import accepts_order, least_ring, stands_for, told_order, turned_order
from ringbeats.tournaments import is_tournament, twins

# Each of these is no signed order.
NO_SIGNED_ORDERS = [
    None, True, False, 0, "", "order", (), [], [(0, True)], {}, ((),), (0,), (True,), (None,), (0, True), ("0",),
    ((0,),), ((True,),), ((0, True, True),), ((0, True), ()), ([0, True],), ([(0, True)],), (((0, True),),),
    # An integer is never True or False.
    ((0, 1),), ((0, 0),), ((False, True),), ((False, False),), ((0, True), (True, True)), ((0, True), (True, 1)),
    ((0, None),), ((0, "True"),), ((0, (True,)),), ((None, True),), (("0", True),), (((0,), True),), ((True, 0),),
    # One signed player for each player.
    ((1, True),), ((-1, True),), ((0, True), (2, True)), ((0, True), (-1, False)), ((10**30, True),),
    ((0, True), (0, True)), ((0, True), (0, False)), ((1, True), (1, False)), ((1, True), (2, True)),
    ((0, True), (1, True), (1, False)), ((0, True), (1, True), (3, True)), ((0, True), (1, False), (0, False)),
    # The last one is wrong, all before are right.
    ((0, True), (1, True), None), ((0, True), (1, True), (2, 1)), ((0, True), (1, True), (2,)),
    ((0, True), (1, True), [2, True]), ((0, True), (1, True), 2),
    # At most eight players.
    tuple((player, True) for player in range(9)), tuple((player, False) for player in range(9))[::-1],
    ((0, True),) * 9, ((0, True),) * 1000,
]


def circular_cases():
    """Every circular tournament of up to five players with its signed orders."""
    for players in (1, 2, 3, 4, 5):
        yield from signed_orders_by_tournament(players).items()


def every_circular_case():
    """Every circular tournament of up to five players, and some of up to eight."""
    for tournament, _ in circular_cases():
        yield tournament
    yield from great_circular()


class StandsFor(Same):
    def test_every_signed_order_of_up_to_five(self):
        for players in (1, 2, 3, 4, 5):
            for order in all_signed_orders(players):
                self.assertSame(stands_for(order), stood_for(order))

    def test_some_of_up_to_eight(self):
        for order in great_signed_orders():
            for turn in all_turns(order):
                self.assertSame(stands_for(turn), stood_for(turn))

    def test_by_the_words(self):
        for order in [*all_signed_orders(3), *great_signed_orders()]:
            tournament = stands_for(order)
            self.assertTrue(is_tournament(tournament))
            for later in range(len(order)):
                for earlier in range(later):
                    (one, as_itself), (other, other_as_itself) = order[earlier], order[later]
                    alike = as_itself == other_as_itself
                    self.assertEqual(beats(tournament, one, other), alike)
                    self.assertEqual(beats(tournament, other, one), not alike)

    def test_it_is_circular(self):
        for players in (1, 2, 3, 4, 5):
            self.assertEqual(set(signed_orders_by_tournament(players)), circular_tournaments(players))
        for order in great_signed_orders():
            self.assertEqual(all_obstructions(stands_for(order)), [])

    def test_examples_and_edges(self):
        self.assertSame(stands_for(((0, True), (2, False), (1, True))), THREE)
        self.assertSame(stands_for(((0, True),)), ONE)
        self.assertSame(stands_for(((0, False),)), ONE)
        self.assertSame(stands_for(((1, False), (0, False))), ((), (0,)))
        self.assertSame(stands_for(((1, False), (0, True))), TWO)
        for itself in (True, False):
            self.assertSame(stands_for(tuple((player, itself) for player in range(8))), EIGHT_IN_A_ROW)

    def test_exchanged_for_opposites_the_results_with_the_others_are_turned(self):
        for order in [*all_signed_orders(3), *list(all_signed_orders(4))[::5], *great_signed_orders()]:
            for players in subsets(len(order))[:40]:
                new = tuple((player, itself != (player in players)) for player, itself in order)
                self.assertSame(stands_for(new), switched_rows(stands_for(order), players))


class ToldOrder(Same):
    def test_the_only_one_that_begins_with_player_0_itself(self):
        for tournament, orders in circular_cases():
            begun = [order for order in orders if order[0] == (0, True)]
            self.assertEqual(len(begun), 1)
            self.assertSame(told_order(tournament), begun[0])

    def test_none_if_it_is_not_circular(self):
        for tournament in small_cases(5):
            if tournament not in circular_tournaments(len(tournament)):
                self.assertSame(told_order(tournament), None)
        for tournament in great_cases():
            self.assertEqual(told_order(tournament) is None, all_obstructions(tournament) != [])

    def test_of_up_to_eight_players(self):
        for order in great_signed_orders():
            self.assertSame(told_order(stood_for(order)), order)

    def test_those_whom_player_0_beats_stand_as_themselves(self):
        for tournament, _ in circular_cases():
            for player, itself in told_order(tournament)[1:]:
                self.assertEqual(itself, beats(tournament, 0, player))

    def test_examples_and_edges(self):
        self.assertSame(told_order(ROW), ((0, True), (1, True), (2, True)))
        self.assertSame(told_order(THREE), ((0, True), (2, False), (1, True)))
        self.assertSame(told_order(ONE), ((0, True),))
        self.assertSame(told_order(TWO), ((0, True), (1, True)))
        self.assertSame(told_order(((), (0,))), ((0, True), (1, False)))
        self.assertSame(told_order(EIGHT_IN_A_ROW), tuple((player, True) for player in range(8)))
        self.assertSame(told_order(BAD), None)
        self.assertSame(told_order(FOUR), None)
        self.assertSame(told_order(WALKS), ((0, True), (2, False), (1, True), (3, False)))


class TurnedOrder(Same):
    def test_every_turn(self):
        for tournament, orders in circular_cases():
            for turn in all_turns(orders[0]):
                self.assertSame(turned_order(tournament, *turn[0]), turn)

    def test_every_turn_of_up_to_eight_players(self):
        for order in great_signed_orders():
            for turn in all_turns(order):
                self.assertSame(turned_order(stood_for(order), *turn[0]), turn)

    def test_none_if_it_is_not_circular(self):
        for tournament in (BAD, FOUR, *great_cases()):
            if all_obstructions(tournament):
                for player in range(len(tournament)):
                    for itself in (True, False):
                        self.assertSame(turned_order(tournament, player, itself), None)

    def test_signed_orders_of_one_tournament_are_the_turns_of_one_of_them(self):
        for tournament, orders in circular_cases():
            turns = {turned_order(tournament, player, itself)
                     for player in range(len(tournament)) for itself in (True, False)}
            self.assertEqual(len(turns), 2 * len(tournament))
            self.assertEqual(turns, set(orders))

    def test_from_player_0_itself_it_is_the_told_order(self):
        for tournament, _ in circular_cases():
            self.assertSame(turned_order(tournament, 0, True), told_order(tournament))

    def test_from_a_player_itself_and_from_its_opposite(self):
        for tournament in every_circular_case():
            for player in range(len(tournament)):
                turn = turned_order(tournament, player, True)
                for other, itself in turn[1:]:
                    self.assertEqual(itself, beats(tournament, player, other))
                self.assertSame(turned_order(tournament, player, False), opposites(turn))

    def test_twins_stand_next_to_one_another_and_look_alike(self):
        for tournament in every_circular_case():
            row = told_order(tournament) + opposites(told_order(tournament))
            beside = {frozenset((row[at - 1][0], row[at][0])) for at in range(len(row)) if row[at - 1][1] == row[at][1]}
            if len(tournament) == 2:
                self.assertEqual(twins(tournament), [(0, 1)])
            elif len(tournament) > 1:
                self.assertEqual({frozenset(pair) for pair in all_twins(tournament)}, beside)
                self.assertEqual({frozenset(pair) for pair in twins(tournament)}, beside)

    def test_examples_and_edges(self):
        self.assertSame(turned_order(ROW, 1, False), ((1, False), (2, False), (0, True)))
        self.assertSame(turned_order(ROW, 2, False), ((2, False), (0, True), (1, True)))
        self.assertSame(turned_order(ROW, 0, False), ((0, False), (1, False), (2, False)))
        self.assertSame(turned_order(ONE, 0, True), ((0, True),))
        self.assertSame(turned_order(ONE, 0, False), ((0, False),))
        self.assertSame(turned_order(EIGHT_IN_A_ROW, 7, False)[:3], ((7, False), (0, True), (1, True)))
        self.assertSame(turned_order(EIGHT_IN_A_ROW, 7, True)[:3], ((7, True), (0, False), (1, False)))


class LeastRing(Same):
    def test_there_are_places_on_it_and_on_every_greater_ring_and_on_no_lesser_one(self):
        for players, greatest in ((1, 5), (2, 7), (3, 9), (4, 9)):
            for tournament in small_cases(players):
                if len(tournament) == players:
                    rings = [ring for ring in range(1, greatest + 1, 2)
                             if tournament in ways_by_tournament(players, ring)]
                    if tournament in circular_tournaments(players):
                        self.assertSame(least_ring(tournament), rings[0])
                        self.assertEqual(rings, list(range(rings[0], greatest + 1, 2)))
                    else:
                        self.assertSame(least_ring(tournament), None)
                        self.assertEqual(rings, [])

    def test_of_five_players(self):
        rings = (5, 7, 9)
        for tournament in circular_tournaments(5):
            expected = min(ring for ring in rings if tournament in ways_by_tournament(5, ring))
            self.assertSame(least_ring(tournament), expected)

    def test_the_sum_of_the_steps_of_every_turn(self):
        for tournament in every_circular_case():
            ring = least_ring(tournament)
            self.assertEqual(ring % 2, 1)
            self.assertLessEqual(ring, 2 * len(tournament) - 1)
            for turn in all_turns(told_order(tournament)):
                self.assertEqual(sum(all_steps(turn)), ring)

    def test_examples_and_edges(self):
        self.assertSame(least_ring(ROW), 5)
        self.assertSame(least_ring(THREE), 3)
        self.assertSame(least_ring(ONE), 1)
        self.assertSame(least_ring(TWO), 3)
        self.assertSame(least_ring(((), (0,))), 3)
        self.assertSame(least_ring(EIGHT_IN_A_ROW), 15)
        self.assertSame(least_ring(stood_for(tuple((player, player % 2 == 0) for player in range(7)))), 7)
        self.assertSame(least_ring(stood_for(tuple((player, player % 2 == 0) for player in range(8)))), 9)
        self.assertSame(least_ring(BAD), None)
        self.assertSame(all_steps(((0, True), (1, True), (2, True))), [2, 2, 1])
        self.assertSame(all_steps(turned_order(ROW, 1, False)), [2, 1, 2])


class AcceptsOrder(Same):
    def test_every_signed_order_for_every_tournament_of_as_many(self):
        for players in (1, 2, 3, 4):
            for tournament in small_cases(4):
                if len(tournament) == players:
                    right = signed_orders_by_tournament(players).get(tournament, [])
                    for order in all_signed_orders(players):
                        self.assertSame(accepts_order(tournament, order), order in right)

    def test_a_signed_order_for_another_number_of_players(self):
        for tournament in small_cases(3):
            for players in (1, 2, 3, 4):
                if players != len(tournament):
                    for order in all_signed_orders(players):
                        self.assertSame(accepts_order(tournament, order), False)

    def test_every_turn_and_no_other_one_of_up_to_eight_players(self):
        for order in great_signed_orders():
            tournament = stood_for(order)
            turns = all_turns(order)
            for turn in turns:
                self.assertSame(accepts_order(tournament, turn), True)
            for at in range(len(order)):
                for new in (order[:at] + opposites(order[at:at + 1]) + order[at + 1:], order[at:] + order[:at]):
                    self.assertSame(accepts_order(tournament, new), new in turns)

    def test_each_part_changed(self):
        for tournament in (ONE, TWO, ROW, THREE, WALKS, EIGHT_IN_A_ROW):
            allowed = all_turns(told_order(tournament))
            for told in allowed[:4]:
                for value in changed(told):
                    self.assertSame(accepts_order(tournament, value), exactly(value, allowed))

    def test_what_is_accepted_is_circular(self):
        for tournament in small_cases(4):
            accepted = any(accepts_order(tournament, order) for order in all_signed_orders(len(tournament)))
            self.assertEqual(accepted, tournament in circular_tournaments(len(tournament)))

    def test_every_value_is_valid(self):
        for tournament in (ONE, TWO, ROW, THREE, BAD, EIGHT_IN_A_ROW):
            for value in [*NO_SIGNED_ORDERS, *NO_TOURNAMENTS]:
                self.assertSame(accepts_order(tournament, value), False)

    def test_examples(self):
        self.assertSame(accepts_order(ROW, ((2, True), (0, False), (1, False))), True)
        self.assertSame(accepts_order(ROW, ((1, True), (0, True), (2, True))), False)
        self.assertSame(accepts_order(ROW, [(0, True), (1, True), (2, True)]), False)
        self.assertSame(accepts_order(ROW, ((0, True), (1, True), [2, True])), False)
        self.assertSame(accepts_order(ROW, ((0, 1), (1, 1), (2, 1))), False)
        self.assertSame(accepts_order(TWO, ((False, True), (True, True))), False)


class Refusals(unittest.TestCase):
    """Point 39, with point 8."""

    def test_what_is_no_tournament_alone_and_with_anything_behind_it(self):
        for value in NO_TOURNAMENTS:
            for call in (told_order, least_ring):
                self.assertEqual(name_of_refusal(call, value), "tournament", (call, value))
            for second in [((0, True),), (), None, True]:
                self.assertEqual(name_of_refusal(accepts_order, value, second), "tournament", (value, second))
            for player, itself in product([0, 1, -1, 9, None, True], [True, False, 0, 1, None]):
                self.assertEqual(name_of_refusal(turned_order, value, player, itself), "tournament", value)

    def test_what_is_no_player(self):
        for tournament in (ROW, THREE):
            for player in NO_PLAYER:
                for itself in (True, False, 0, 1, None, "True", (True,)):
                    self.assertEqual(name_of_refusal(turned_order, tournament, player, itself), "player", player)
        for tournament, player in ((ONE, 1), (ONE, -1), (ONE, False), (BAD, 4), (BAD, -1), (EIGHT_IN_A_ROW, 8)):
            self.assertEqual(name_of_refusal(turned_order, tournament, player, True), "player", player)

    def test_what_is_neither_true_nor_false(self):
        for tournament in (ONE, ROW, THREE, BAD, EIGHT_IN_A_ROW):
            for itself in (0, 1, -1, None, "", "True", (), (True,), [True], {}):
                for player in (0, len(tournament) - 1):
                    self.assertEqual(name_of_refusal(turned_order, tournament, player, itself), "itself", itself)

    def test_what_is_no_signed_order(self):
        for order in NO_SIGNED_ORDERS:
            self.assertEqual(name_of_refusal(stands_for, order), "order", order)

    def test_each_part_of_a_signed_order_changed(self):
        for order in [*all_signed_orders(1), *all_signed_orders(2), ((1, False), (2, True), (0, True))]:
            allowed = {repr(value) for players in (1, 2, 3) for value in all_signed_orders(players)}
            for value in changed(order):
                if repr(value) not in allowed:
                    self.assertEqual(name_of_refusal(stands_for, value), "order", value)

    def test_players_and_signs_that_are_right(self):
        for player, itself in product(range(8), (True, False)):
            self.assertEqual(turned_order(EIGHT_IN_A_ROW, player, itself)[0], (player, itself))
        for order in permutations(range(3)):
            self.assertTrue(is_tournament(stands_for(tuple((player, False) for player in order))))


class NothingIsKept(unittest.TestCase):
    """Point 2."""

    def test_equal_calls_have_equal_results(self):
        for _ in range(2):
            self.assertEqual(told_order(THREE), ((0, True), (2, False), (1, True)))
            self.assertEqual(turned_order(ROW, 1, False), ((1, False), (2, False), (0, True)))
            self.assertEqual([least_ring(ROW), least_ring(BAD), least_ring(THREE)], [5, None, 3])

    def test_judged_and_refused_lists_stay_as_they_were(self):
        judged = [(0, True), (1, True), (2, True)]
        accepts_order(ROW, judged)
        name_of_refusal(stands_for, judged)
        self.assertEqual(judged, [(0, True), (1, True), (2, True)])


if __name__ == "__main__":
    unittest.main()
