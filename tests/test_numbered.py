"""Points 87 to 96, with 2, 3, 4, 8, 33 and 34: the circular tournaments in sequence."""

import unittest
from itertools import product
from math import factorial

from cases import (
    BAD, EIGHT_IN_A_ROW, FOUR, ONE, ROW, THREE, TWO, Same, great_cases, great_circular, great_signed_orders, in_a_row,
    small_cases, some_orders,
)
from plain import (
    all_obstructions, all_tournaments, circular_tournaments, is_transitive, nth_signed_order, renamed_rows,
    restricted_rows, reversed_rows, signed_orders_by_tournament, stood_for,
)
from plain_known import orders_in_sequence, place_in_sequence, tournaments_in_sequence
from wrong import NO_INTEGERS, NO_TOURNAMENTS, name_of_refusal, refusal
from ringbeats.errors import NotPossible, TooLarge
from ringbeats.numbered import count_circular, index_of_circular, next_circular, nth_circular, with_one_more
from ringbeats.signed import told_order

NUMBERS = [1, 2, 8, 48, 384, 3840, 46080, 645120]


def placed(tournament):
    """What tournaments are put in sequence by."""
    return place_in_sequence(told_order(tournament))


def some_indexes(many):
    """The first and the last indexes of so many players, and others."""
    last = NUMBERS[many - 1] - 1
    near_the_ends = [*range(4), *range(last - 3, last + 1)]
    return sorted({index for index in [*near_the_ends, last // 2, last // 2 + 1, *range(0, last, last // 40 + 1)]
                   if 0 <= index <= last})


class CountCircular(Same):
    def test_of_one_to_eight_players(self):
        self.assertSame([count_circular(many) for many in range(1, 9)], NUMBERS)

    def test_the_formula(self):
        for many in range(1, 9):
            self.assertSame(count_circular(many), 2 ** (many - 1) * factorial(many - 1))

    def test_as_many_as_there_are(self):
        for many in range(1, 6):
            self.assertEqual(count_circular(many), len(circular_tournaments(many)))
            self.assertEqual(count_circular(many), len(orders_in_sequence(many)))


class Sequence(Same):
    """Points 87 and 88."""

    def test_all_of_up_to_five_players(self):
        for many in range(1, 6):
            found = [nth_circular(many, index) for index in range(NUMBERS[many - 1])]
            self.assertSame(found, tournaments_in_sequence(many))
            self.assertEqual(set(found), circular_tournaments(many))

    def test_every_index_of_up_to_five_players(self):
        for many in range(1, 6):
            for index, tournament in enumerate(tournaments_in_sequence(many)):
                self.assertSame(index_of_circular(tournament), index)

    def test_the_told_orders_are_in_sequence(self):
        for many in (3, 4, 5):
            orders = [told_order(nth_circular(many, index)) for index in range(NUMBERS[many - 1])]
            self.assertEqual(orders, orders_in_sequence(many))
        for many in (6, 7, 8):
            found = [placed(nth_circular(many, index)) for index in some_indexes(many)]
            self.assertEqual(found, sorted(found))
            self.assertEqual(len({tuple(told) for told in found}), len(found))

    def test_all_of_six_players(self):
        begun = sorted([nth_signed_order(6, number) for number in range(3840)], key=place_in_sequence)
        for index in range(0, 3840, 7):
            self.assertSame(nth_circular(6, index), stood_for(begun[index]))
            self.assertSame(index_of_circular(stood_for(begun[index])), index)

    def test_there_and_back_of_up_to_eight_players(self):
        for many in range(1, 9):
            for index in some_indexes(many):
                self.assertSame(index_of_circular(nth_circular(many, index)), index)
        for order in great_signed_orders():
            tournament = stood_for(order)
            self.assertSame(nth_circular(len(order), index_of_circular(tournament)), tournament)

    def test_the_index_is_the_number_of_those_before_it(self):
        for order in great_signed_orders():
            before = 0
            for at in range(1, len(order)):
                left = sorted(order[at:])
                places = [(player, as_itself) for player, _ in left for as_itself in (True, False)]
                before += places.index(order[at]) * NUMBERS[len(order) - at - 1]
            self.assertSame(index_of_circular(stood_for(order)), before)

    def test_each_signed_order_that_begins_so_is_the_told_order_of_one(self):
        for many in range(1, 6):
            orders = [told_order(nth_circular(many, index)) for index in range(NUMBERS[many - 1])]
            self.assertEqual(len(set(orders)), NUMBERS[many - 1])
            self.assertTrue(all(order[0] == (0, True) for order in orders))
            for tournament, signed in signed_orders_by_tournament(many).items():
                self.assertEqual([order for order in signed if order[0] == (0, True)],
                                 [orders[index_of_circular(tournament)]])

    def test_the_first_and_the_last_one_are_transitive(self):
        for many in range(1, 9):
            row = in_a_row(tuple(range(many)))
            self.assertSame(nth_circular(many, 0), row)
            self.assertSame(index_of_circular(row), 0)
            self.assertSame(nth_circular(many, NUMBERS[many - 1] - 1), reversed_rows(row))
            self.assertSame(index_of_circular(reversed_rows(row)), NUMBERS[many - 1] - 1)

    def test_how_many_are_transitive(self):
        for many in range(1, 6):
            found = [nth_circular(many, index) for index in range(NUMBERS[many - 1])]
            self.assertEqual(len([tournament for tournament in found if is_transitive(tournament)]), factorial(many))

    def test_examples(self):
        self.assertSame(told_order(nth_circular(3, 2)), ((0, True), (1, False), (2, True)))
        self.assertSame([nth_circular(3, index) for index in (0, 1, 2, 7)],
                        [ROW, ((1,), (), (0, 1)), ((2,), (0,), (1,)), ((), (0,), (0, 1))])
        self.assertSame(index_of_circular(((2,), (0,), (1,))), 2)
        self.assertSame([nth_circular(1, 0), nth_circular(2, 0), nth_circular(2, 1)], [ONE, TWO, ((), (0,))])


class IndexOfCircular(Same):
    def test_none_if_and_only_if_there_is_an_obstruction(self):
        for tournament in [*small_cases(4), *list(all_tournaments(5))[::3], *great_cases(), *great_circular()]:
            self.assertEqual(index_of_circular(tournament) is None, all_obstructions(tournament) != [])

    def test_renamed_or_reversed_it_has_some_index_too(self):
        for tournament in [*small_cases(3), *list(small_cases(4))[::3], *great_cases(), *great_circular()]:
            has_one = index_of_circular(tournament) is not None
            changed = [renamed_rows(tournament, order) for order in some_orders(len(tournament))]
            for new in [*changed, reversed_rows(tournament)]:
                self.assertEqual(index_of_circular(new) is not None, has_one)

    def test_examples_and_edges(self):
        self.assertSame(index_of_circular(((), (0,), (0, 1))), 7)
        self.assertSame(index_of_circular(BAD), None)
        self.assertSame(index_of_circular(FOUR), None)
        self.assertSame(index_of_circular(ONE), 0)
        self.assertSame(index_of_circular(TWO), 0)
        self.assertSame(index_of_circular(((), (0,))), 1)
        self.assertSame(index_of_circular(EIGHT_IN_A_ROW), 0)


class NextCircular(Same):
    def test_one_behind_another_one(self):
        for many in range(1, 6):
            found = tournaments_in_sequence(many)
            for one, other in zip(found, [*found[1:], None]):
                self.assertSame(next_circular(one), other)

    def test_of_up_to_eight_players(self):
        for many in (6, 7, 8):
            for index in some_indexes(many)[:-1:3]:
                self.assertSame(next_circular(nth_circular(many, index)), nth_circular(many, index + 1))

    def test_none_behind_the_last_one(self):
        for many in range(1, 9):
            self.assertSame(next_circular(reversed_rows(in_a_row(tuple(range(many))))), None)
            self.assertSame(next_circular(nth_circular(many, NUMBERS[many - 1] - 1)), None)

    def test_examples(self):
        self.assertSame(next_circular(ROW), ((1,), (), (0, 1)))
        self.assertSame(next_circular(((), (0,), (0, 1))), None)
        self.assertSame(next_circular(ONE), None)
        self.assertSame(next_circular(TWO), ((), (0,)))


class WithOneMore(Same):
    def test_all_of_up_to_four_players(self):
        for many in range(1, 5):
            for tournament in tournaments_in_sequence(many):
                players = tuple(range(many))
                expected = [longer for longer in tournaments_in_sequence(many + 1)
                            if restricted_rows(longer, players) == tournament]
                self.assertEqual(len(expected), 2 * many)
                self.assertSame(with_one_more(tournament), expected)

    def test_of_up_to_seven_players(self):
        for tournament in great_circular():
            many = len(tournament)
            if many < 8:
                found = with_one_more(tournament)
                self.assertEqual(len(found), 2 * many)
                self.assertIs(type(found), list)
                indexes = [index_of_circular(longer) for longer in found]
                self.assertEqual(indexes, sorted(set(indexes)))
                for longer in found:
                    self.assertEqual(restricted_rows(longer, tuple(range(many))), tournament)
                    self.assertEqual(all_obstructions(longer), [])

    def test_the_new_player_is_put_in_anywhere_behind_player_0(self):
        for order in [*great_signed_orders(), *(order for many in range(1, 5) for order in orders_in_sequence(many))]:
            many = len(order)
            if many < 8:
                expected = {order[:at] + ((many, itself),) + order[at:]
                            for at in range(1, many + 1) for itself in (True, False)}
                found = [told_order(longer) for longer in with_one_more(stood_for(order))]
                self.assertEqual(set(found), expected)
                self.assertEqual(len(found), 2 * many)

    def test_examples_and_edges(self):
        self.assertSame(with_one_more(ONE), [TWO, ((), (0,))])
        self.assertSame(len(with_one_more(ROW)), 6)
        self.assertSame(with_one_more(TWO), [ROW, ((1,), (), (0, 1)), ((1, 2), (), (1,)), THREE])
        seven = in_a_row(tuple(range(7)))
        self.assertSame(len(with_one_more(seven)), 14)
        self.assertSame(with_one_more(seven)[0], EIGHT_IN_A_ROW)


class Refusals(unittest.TestCase):
    """Point 95, with point 8."""

    def test_what_is_no_number_of_players_alone_and_with_anything_behind_it(self):
        for many in NO_INTEGERS + [0, -1, -8, 9, 10, 100, 10**30, "8", (1,), [8]]:
            self.assertEqual(name_of_refusal(count_circular, many), "many", many)
            for index in (0, 1, -1, True, None, "0", [0], 10**30):
                self.assertEqual(name_of_refusal(nth_circular, many, index), "many", (many, index))

    def test_what_is_no_index(self):
        for many in range(1, 9):
            number = NUMBERS[many - 1]
            for index in NO_INTEGERS + [-1, -number, number, number + 1, 10**30, "1", (0,), [0]]:
                self.assertEqual(name_of_refusal(nth_circular, many, index), "index", (many, index))

    def test_what_is_no_tournament(self):
        for value in NO_TOURNAMENTS:
            for call in (index_of_circular, next_circular, with_one_more):
                self.assertEqual(name_of_refusal(call, value), "tournament", (call, value))

    def test_not_circular_comes_before_too_large(self):
        for tournament in [BAD, FOUR, *great_cases()]:
            if all_obstructions(tournament):
                for call in (next_circular, with_one_more):
                    self.assertEqual(refusal(call, tournament), (NotPossible, "circular"))
        not_circular = [tournament for tournament in great_cases() if all_obstructions(tournament)]
        self.assertIn(8, [len(tournament) for tournament in not_circular])

    def test_one_player_more_than_eight(self):
        for tournament in great_circular():
            if len(tournament) == 8:
                self.assertEqual(refusal(with_one_more, tournament), (TooLarge, "players"))
                self.assertNotIn(TooLarge, refusal(next_circular, tournament))
        self.assertEqual(refusal(with_one_more, EIGHT_IN_A_ROW), (TooLarge, "players"))

    def test_all_others_are_possible(self):
        for many, tournament in product((6, 7), great_circular()):
            if len(tournament) == many:
                self.assertEqual(refusal(with_one_more, tournament)[0], "returned")


class NothingIsKept(unittest.TestCase):
    """Point 2."""

    def test_a_returned_list_is_not_used_again(self):
        for tournament in (ONE, TWO, ROW, THREE):
            first = with_one_more(tournament)
            kept = list(first)
            first.append(None)
            first.reverse()
            self.assertEqual(with_one_more(tournament), kept)
            self.assertIsNot(with_one_more(tournament), with_one_more(tournament))

    def test_equal_calls_have_equal_results(self):
        for _ in range(2):
            self.assertEqual([nth_circular(3, 1), index_of_circular(THREE), count_circular(8)],
                             [((1,), (), (0, 1)), index_of_circular(((1,), (2,), (0,))), 645120])
            self.assertEqual([next_circular(ROW), next_circular(((), (0,)))], [((1,), (), (0, 1)), None])


if __name__ == "__main__":
    unittest.main()
