"""Points 97 to 99 and 102 to 108, with 2, 3, 4 and 8: known results and their completions."""

import unittest
from functools import lru_cache
from itertools import combinations, permutations, product

from cases import Same
from plain import circular_tournaments, subsets, switched_rows
from plain_known import (
    all_completions, all_forced, all_known, conflict, has_all, known_obstructions, question, some_known,
)
from wrong import NO_KNOWN, NO_NUMBERS, name_of_refusal, refusal
from ringbeats.errors import NotPossible
from ringbeats.known import best_question, count_completions, first_conflict, forced

RING = ((0, 1), (1, 2), (2, 0), (3, 0), (3, 1))
NO_COMPLETION = RING + ((3, 2),)
# Without an obstruction among four players between whom all results are known.
HIDDEN = ((0, 2), (0, 3), (0, 4), (1, 2), (1, 3), (2, 4), (4, 1), (4, 3))
CALLS = (count_completions, forced, first_conflict, best_question)


@lru_cache(maxsize=None)
def small_known():
    """The numbers of players, up to four, with all known results."""
    return [(players, known) for players in (1, 2, 3, 4) for known in all_known(players)]


@lru_cache(maxsize=None)
def some_of_five():
    """Known results of five players: few and many, with completions and without."""
    found = {HIDDEN, *some_known(5, 599)}
    without = [known for known in all_known(4) if known_obstructions(4, known)]
    for number, known in enumerate(without):
        for told in list(product((None, False, True), repeat=4))[number % 7::16]:
            further = [(4, other) if won else (other, 4) for other, won in enumerate(told) if won is not None]
            results = [((one + number) % 5, (other + number) % 5) for one, other in [*known, *further]]
            found.add(tuple(sorted(results)))
    return [(5, known) for known in sorted(found)]


def cases():
    return [*small_known()[::6], *some_of_five()[::5]]


def switched_results(results, players):
    return tuple(sorted(result[::-1] if len(set(result) & set(players)) == 1 else result for result in results))


class CountCompletions(Same):
    def test_all_known_results_of_up_to_four_players(self):
        for players, known in small_known():
            self.assertSame(count_completions(players, known), len(all_completions(players, known)))

    def test_of_five_players(self):
        for players, known in some_of_five():
            self.assertSame(count_completions(players, known), len(all_completions(players, known)))

    def test_without_known_results(self):
        self.assertSame([count_completions(players, ()) for players in (1, 2, 3, 4, 5)], [1, 2, 8, 48, 384])

    def test_results_between_all_players(self):
        for players in (2, 3, 4):
            for known in all_known(players):
                if len(known) == players * (players - 1) // 2:
                    rows = tuple(tuple(y for x, y in known if x == player) for player in range(players))
                    self.assertSame(count_completions(players, known), int(rows in circular_tournaments(players)))

    def test_both_results_between_two_players_make_up_all(self):
        for players, known in cases():
            for one, other in combinations(range(players), 2):
                if (one, other) not in known and (other, one) not in known:
                    both = [count_completions(players, tuple(sorted((*known, result))))
                            for result in ((one, other), (other, one))]
                    self.assertEqual(sum(both), count_completions(players, known))

    def test_one_player_more_of_whom_no_result_is_known(self):
        for players, known in [*small_known(), *some_of_five()]:
            if players < 4 or players == 4 and len(known) % 3 == 2:
                many = count_completions(players + 1, known)
                self.assertEqual(many, 2 * players * count_completions(players, known))

    def test_switched_there_are_as_many(self):
        for players, known in small_known()[::11]:
            for chosen in subsets(players):
                switched = {switched_rows(tournament, chosen) for tournament in all_completions(players, known)}
                new = switched_results(known, chosen)
                self.assertEqual(count_completions(players, new), count_completions(players, known))
                self.assertEqual(set(all_completions(players, new)), switched)

    def test_examples(self):
        self.assertSame(count_completions(3, ((0, 1), (1, 2))), 2)
        self.assertSame(count_completions(4, RING), 1)
        self.assertSame(count_completions(4, NO_COMPLETION), 0)
        self.assertSame(count_completions(5, RING), 8)
        self.assertSame(count_completions(5, NO_COMPLETION), 0)
        self.assertSame(count_completions(5, HIDDEN), 0)
        self.assertSame(count_completions(5, HIDDEN[1:]), len(all_completions(5, HIDDEN[1:])))


class Forced(Same):
    def test_all_known_results_of_up_to_four_players(self):
        for players, known in small_known():
            self.assertSame(forced(players, known), all_forced(players, known))

    def test_of_five_players(self):
        for players, known in some_of_five():
            self.assertSame(forced(players, known), all_forced(players, known))

    def test_known_results_are_forced_if_there_is_a_completion(self):
        for players, known in cases():
            told = forced(players, known)
            self.assertEqual(told is None, count_completions(players, known) == 0)
            if told is not None:
                self.assertLessEqual(set(known), set(told))
                self.assertEqual(list(told), sorted(set(told)))

    def test_with_a_further_result_forced_ones_stay(self):
        for players, known in cases():
            told = forced(players, known)
            for result in permutations(range(players), 2):
                if told is not None and result not in known and result[::-1] not in known:
                    new = forced(players, tuple(sorted((*known, result))))
                    if new is not None:
                        self.assertLessEqual(set(told), set(new))
                    self.assertEqual(new is None, result[::-1] in told)

    def test_one_player_more_of_whom_no_result_is_known(self):
        for players, known in small_known()[::7]:
            self.assertSame(forced(players + 1, known), forced(players, known))

    def test_one_completion_forces_a_result_between_any_two(self):
        for players, known in [*small_known(), *some_of_five()]:
            pairs = players * (players - 1) // 2
            told = forced(players, known)
            self.assertEqual(told is not None and len(told) == pairs, count_completions(players, known) == 1)

    def test_examples(self):
        self.assertSame(forced(3, ((0, 1), (1, 2))), ((0, 1), (1, 2)))
        self.assertSame(forced(4, RING), ((0, 1), (1, 2), (2, 0), (2, 3), (3, 0), (3, 1)))
        self.assertSame(forced(4, NO_COMPLETION), None)
        self.assertSame(forced(1, ()), ())
        self.assertSame(forced(5, ()), ())
        self.assertSame(forced(2, ((1, 0),)), ((1, 0),))


class FirstConflict(Same):
    def test_all_known_results_of_up_to_four_players(self):
        for players, known in small_known():
            self.assertSame(first_conflict(players, known), conflict(players, known))

    def test_of_five_players(self):
        found = set()
        for players, known in some_of_five():
            index = first_conflict(players, known)
            self.assertSame(index, conflict(players, known))
            found.add((index, len(known)))
        self.assertGreater(len(found), 8)

    def test_at_the_first_place_that_there_can_be_at_one_in_the_middle_and_at_the_last_one(self):
        first = ((0, 1), (0, 2), (0, 3), (1, 2), (2, 3), (3, 1))
        self.assertSame(first_conflict(4, first), 5)
        self.assertSame(first_conflict(4, first[:5]), None)
        self.assertSame(first_conflict(5, (*first, (3, 4))), 5)
        self.assertSame(first_conflict(5, (*first, (4, 0), (4, 1), (4, 2), (4, 3))), 5)
        middle = ((0, 1), (0, 2), (0, 3), (0, 4), (1, 2), (2, 3), (3, 1), (4, 1), (4, 2))
        self.assertSame(first_conflict(5, middle), 6)
        last = ((0, 1), (0, 2), (0, 3), (0, 4), (1, 2), (1, 3), (1, 4), (2, 3), (3, 4), (4, 2))
        self.assertSame(first_conflict(5, last), 9)
        self.assertSame(first_conflict(5, HIDDEN), 7)
        self.assertSame(first_conflict(5, HIDDEN[:7]), None)

    def test_up_to_it_there_is_none_and_before_it_there_is_one(self):
        for players, known in cases():
            index = first_conflict(players, known)
            self.assertEqual(index is None, count_completions(players, known) > 0)
            if index is not None:
                self.assertEqual(count_completions(players, known[:index + 1]), 0)
                self.assertGreater(count_completions(players, known[:index]), 0)

    def test_examples(self):
        self.assertSame(first_conflict(4, NO_COMPLETION), 5)
        self.assertSame(first_conflict(4, RING), None)
        for players in (1, 2, 3, 4, 5):
            self.assertSame(first_conflict(players, ()), None)


class BestQuestion(Same):
    def test_all_known_results_of_up_to_four_players(self):
        for players, known in small_known():
            if all_completions(players, known):
                self.assertSame(best_question(players, known), question(players, known))

    def test_of_five_players(self):
        for players, known in some_of_five():
            if all_completions(players, known):
                self.assertSame(best_question(players, known), question(players, known))

    def test_some_leave_other_numbers_than_others(self):
        """Not only the first pair between which no result is forced is the best question."""
        later = 0
        for players, known in [*small_known(), *some_of_five()]:
            told = all_forced(players, known)
            if told is not None:
                pairs = [pair for pair in combinations(range(players), 2)
                         if pair not in told and pair[::-1] not in told]
                later += bool(pairs) and best_question(players, known) != pairs[0]
        self.assertGreater(later, 10)

    def test_none_if_a_result_is_forced_between_any_two_players(self):
        for players, known in [*small_known(), *some_of_five()]:
            told = all_forced(players, known)
            if told is not None:
                pairs = players * (players - 1) // 2
                self.assertEqual(best_question(players, known) is None, len(told) == pairs)

    def test_examples(self):
        self.assertSame(best_question(3, ((0, 1), (1, 2))), (0, 2))
        self.assertSame(best_question(3, ()), (0, 1))
        self.assertSame(best_question(4, RING), None)
        self.assertSame(best_question(1, ()), None)
        self.assertSame(best_question(2, ((1, 0),)), None)
        self.assertSame(best_question(2, ()), (0, 1))


class Meaning(unittest.TestCase):
    """Points 97 and 98, by the tournaments themselves."""

    def test_completions_have_the_known_results(self):
        for players, known in small_known()[::3]:
            found = [tournament for tournament in circular_tournaments(players) if has_all(tournament, known)]
            self.assertEqual(count_completions(players, known), len(found))
            if found:
                for result in permutations(range(players), 2):
                    in_all = all(has_all(tournament, (result,)) for tournament in found)
                    self.assertEqual(result in forced(players, known), in_all)

    def test_example(self):
        self.assertIn((2, 3), forced(4, RING))
        self.assertEqual(first_conflict(4, NO_COMPLETION), 5)


class Refusals(unittest.TestCase):
    """Point 107, with point 8."""

    def test_what_is_no_number_of_players_alone_and_with_anything_behind_it(self):
        for call, players in product(CALLS, NO_NUMBERS):
            for known in [(), ((0, 1),), ((0, 0),), ((0, 9),), None, True, [], NO_COMPLETION]:
                self.assertEqual(name_of_refusal(call, players, known), "players", (call, players, known))

    def test_what_are_no_known_results(self):
        for call, known in product(CALLS, NO_KNOWN):
            self.assertEqual(name_of_refusal(call, 3, known), "known", (call, known))

    def test_what_are_no_known_results_of_so_many_players(self):
        for call, players in product(CALLS, (1, 2, 3, 4, 5)):
            for one, other in [(0, players), (players, 0), (players - 1, players), (0, 5), (0, -1), (0, 0)]:
                known = ((one, other),)
                self.assertEqual(name_of_refusal(call, players, known), "known", (call, players, known))
            self.assertEqual(name_of_refusal(call, players, []), "known")
        self.assertEqual(name_of_refusal(count_completions, 3, RING), "known")
        self.assertEqual(name_of_refusal(first_conflict, 1, ((0, 1),)), "known")

    def test_no_completion(self):
        for players, known in [*small_known(), *some_of_five()]:
            if not all_completions(players, known):
                self.assertEqual(refusal(best_question, players, known), (NotPossible, "none"))
                self.assertEqual(refusal(forced, players, known), ("returned", None))
                self.assertEqual(refusal(count_completions, players, known), ("returned", 0))

    def test_what_is_wrong_comes_before_no_completion(self):
        self.assertEqual(name_of_refusal(best_question, 4, NO_COMPLETION[::-1]), "known")
        self.assertEqual(name_of_refusal(best_question, 3, NO_COMPLETION), "known")
        self.assertEqual(name_of_refusal(best_question, 6, NO_COMPLETION), "players")

    def test_all_others_are_possible(self):
        for players, known in cases():
            for call in (count_completions, forced, first_conflict):
                self.assertEqual(refusal(call, players, known)[0], "returned")


class NothingIsKept(unittest.TestCase):
    """Point 2."""

    def test_equal_calls_have_equal_results(self):
        for _ in range(2):
            self.assertEqual([call(4, RING) for call in CALLS], [1, RING[:3] + ((2, 3),) + RING[3:], None, None])
            self.assertEqual([call(3, ()) for call in CALLS], [8, (), None, (0, 1)])

    def test_refused_lists_stay_as_they_were(self):
        known = [[1, 2], [0, 1]]
        for call in CALLS:
            self.assertEqual(name_of_refusal(call, 3, known), "known")
        self.assertEqual(known, [[1, 2], [0, 1]])


if __name__ == "__main__":
    unittest.main()
