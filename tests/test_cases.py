"""Points 97, 98, 100, 101, 107 and 108, with 2, 3, 7 and 8: evidence about two players, and its judge."""

import unittest
from functools import lru_cache
from itertools import combinations, permutations, product

from cases import Same, changed
from plain import beats
from plain_known import (
    all_completions, all_known, is_pair_evidence, is_tree, known_obstructions, last_tree, some_known,
)
from wrong import NO_KNOWN, NO_NUMBERS, NO_PLAYER, NO_PLAYERS, NO_TOURNAMENTS, name_of_refusal
from ringbeats.cases import accepts_pair, pair_evidence

RING = ((0, 1), (1, 2), (2, 0), (3, 0), (3, 1))
RING_DONE = ((1,), (2,), (0, 3), (0, 1))
NO_COMPLETION = RING + ((3, 2),)
# Without an obstruction among four players between whom all results are known.
HIDDEN = ((0, 2), (0, 3), (0, 4), (1, 2), (1, 3), (2, 4), (4, 1), (4, 3))
WORDS = ("open", "forced", "none")
TWO_OPEN = ("open", ((1,), ()), ((), (0,)))


@lru_cache(maxsize=None)
def cases():
    """Numbers of players, known results, and two players: all of up to three players, and some of four and five."""
    found = [(players, known) for players in (1, 2, 3) for known in all_known(players)]
    found += [(4, known) for known in some_known(4, 3)]
    found += [(4, known) for known in all_known(4) if known_obstructions(4, known)][::2]
    found += [(5, known) for known in [*some_known(5, 1999), NO_COMPLETION, HIDDEN, HIDDEN[1:], HIDDEN[:-1]]]
    return [(players, known, one, other) for players, known in found
            for one, other in combinations(range(players), 2)]


def word_of(players, known, one, other):
    """The word of the evidence that there is."""
    found = all_completions(players, known)
    if not found:
        return "none"
    return "forced" if len({beats(tournament, one, other) for tournament in found}) == 1 else "open"


def other_evidence(players, known, one, other):
    """Evidence that is not what the program tells: with the last completions, and trees that ask on and on."""
    found = all_completions(players, known)
    if not found:
        return "none", last_tree(players, known)
    won = [tournament for tournament in found if beats(tournament, one, other)]
    lost = [tournament for tournament in found if beats(tournament, other, one)]
    if won and lost:
        return "open", won[-1], lost[-1]
    if (one, other) in known or (other, one) in known:
        return "forced", found[-1], None
    return "forced", found[-1], last_tree(players, known + ((other, one) if won else (one, other),))


def parts(value):
    """Each tuple in the value, itself too, and a value with another one in its place."""
    yield value, lambda new: new
    for at, item in enumerate(value):
        if type(item) is tuple:
            for part, put in parts(item):
                yield part, lambda new, at=at, put=put: value[:at] + (put(new),) + value[at + 1:]


class PairEvidence(Same):
    def test_it_is_evidence_and_accepted(self):
        for players, known, one, other in cases():
            told = pair_evidence(players, known, one, other)
            self.assertTrue(is_pair_evidence(players, known, one, other, told), (players, known, one, other, told))
            self.assertSame(accepts_pair(players, known, one, other, told), True)

    def test_the_word(self):
        for players, known, one, other in cases():
            self.assertSame(pair_evidence(players, known, one, other)[0], word_of(players, known, one, other))

    def test_the_same_call_returns_the_same(self):
        for players, known, one, other in cases()[::7]:
            self.assertSame(pair_evidence(players, known, one, other), pair_evidence(players, known, one, other))

    def test_none_stands_in_the_place_of_the_tree_just_if_a_result_is_known(self):
        found = set()
        for players, known, one, other in cases():
            told = pair_evidence(players, known, one, other)
            if told[0] == "forced":
                is_known = (one, other) in known or (other, one) in known
                self.assertEqual(told[2] is None, is_known)
                found.add(is_known)
        self.assertEqual(found, {True, False})

    def test_a_tree_with_cases(self):
        for one, other in combinations(range(5), 2):
            told = pair_evidence(5, HIDDEN, one, other)
            self.assertEqual(told[0], "none")
            self.assertEqual(told[1][0], "by")
            self.assertSame(accepts_pair(5, HIDDEN, one, other, told), True)

    def test_examples_and_edges(self):
        self.assertSame(pair_evidence(4, RING, 2, 3), ("forced", RING_DONE, ("no", (3, 0, 1, 2))))
        self.assertSame(pair_evidence(4, RING, 0, 1), ("forced", RING_DONE, None))
        self.assertSame(pair_evidence(4, NO_COMPLETION, 0, 1), ("none", ("no", (3, 0, 1, 2))))
        self.assertSame(pair_evidence(4, NO_COMPLETION, 0, 1)[0], "none")
        self.assertSame(pair_evidence(2, (), 0, 1), TWO_OPEN)
        self.assertSame(pair_evidence(2, ((1, 0),), 0, 1), ("forced", ((), (0,)), None))


class AcceptsPair(Same):
    def test_evidence_of_others(self):
        words = set()
        for players, known, one, other in cases():
            told = other_evidence(players, known, one, other)
            words.add(told[0])
            self.assertSame(accepts_pair(players, known, one, other, told), True)
        self.assertEqual(words, set(WORDS))

    def test_all_completions_in_turn(self):
        for players, known, one, other in cases():
            if players < 4:
                found = all_completions(players, known)
                tournaments = [*all_completions(players, ()), *all_completions(players % 4 + 1, ())[:3]]
                for first, second in product(tournaments, [*tournaments, None]):
                    expected = (first in found and second in found and beats(first, one, other)
                                and beats(second, other, one))
                    self.assertSame(accepts_pair(players, known, one, other, ("open", first, second)), expected)
                    expected = is_pair_evidence(players, known, one, other, ("forced", first, second))
                    self.assertSame(accepts_pair(players, known, one, other, ("forced", first, second)), expected)

    def test_trees_of_each_obstruction_that_four_numbers_can_tell(self):
        for known in [NO_COMPLETION, RING, *[known for known in all_known(4) if len(known) == 6][::11]]:
            for four in product(range(-1, 5), repeat=4):
                expected = four in known_obstructions(4, known)
                self.assertSame(accepts_pair(4, known, 0, 1, ("none", ("no", four))), expected)

    def test_each_part_changed(self):
        for players, known, one, other in [*cases()[:40:5], *cases()[40::67]]:
            told = pair_evidence(players, known, one, other)
            for value in changed(told):
                self.assertSame(accepts_pair(players, known, one, other, value),
                                is_pair_evidence(players, known, one, other, value))

    def test_each_part_of_a_tree_changed_at_any_depth(self):
        several = known_obstructions(4, NO_COMPLETION)
        self.assertEqual(len(several), 1)
        deep = [(5, HIDDEN, 0, 1), (4, RING[:4] + ((3, 2),), 1, 3)]
        for players, known, one, other in deep:
            for told in (pair_evidence(players, known, one, other), other_evidence(players, known, one, other)):
                for value in changed(told):
                    self.assertSame(accepts_pair(players, known, one, other, value),
                                    is_pair_evidence(players, known, one, other, value))

    def test_parts_of_a_great_tree_put_in_one_anothers_place(self):
        known = NO_COMPLETION
        told = ("none", last_tree(5, known))
        self.assertSame(accepts_pair(5, known, 0, 4, told), True)
        trees = [(part, put) for part, put in parts(told) if part and part[0] in ("no", "by")]
        self.assertEqual(len(trees), 31)
        for (_, put), (part, _) in product(trees[::2], trees[::10]):
            for new in (part, None, part[:-1], list(part), ("no",) + part[1:], ("by",) + part[1:]):
                value = put(new)
                self.assertSame(accepts_pair(5, known, 0, 4, value), is_pair_evidence(5, known, 0, 4, value))

    def test_by_the_words_of_point_100(self):
        known = RING[:4] + ((3, 2),)
        # Between 1 and 3 nothing is known: 3 beats a triangle, or 3 beats 0 and 2, and 1 beats 3.
        self.assertEqual(word_of(4, known, 1, 3), "forced")
        told = ("forced", all_completions(4, known)[0], ("no", (3, 0, 1, 2)))
        self.assertSame(accepts_pair(4, known, 1, 3, told), True)
        # The known results of a tree are those of the place where it stands.
        leaf = ("no", (3, 0, 1, 2))
        self.assertSame(accepts_pair(4, known, 1, 3, ("none", leaf)), False)
        self.assertSame(accepts_pair(4, known, 1, 3, ("none", ("by", 1, 3, leaf, leaf))), False)
        self.assertSame(accepts_pair(4, NO_COMPLETION, 0, 1, ("none", leaf)), True)
        # A result between the two is known: these are no cases.
        for one, other in permutations(range(4), 2):
            self.assertSame(accepts_pair(4, NO_COMPLETION, 0, 1, ("none", ("by", one, other, leaf, leaf))), False)
        # The lesser one of the two players stands first.
        for one in (0, 1, 2, 3):
            self.assertSame(accepts_pair(5, NO_COMPLETION, 0, 1, ("none", ("by", one, 4, leaf, leaf))), True)
            self.assertSame(accepts_pair(5, NO_COMPLETION, 0, 1, ("none", ("by", 4, one, leaf, leaf))), False)
            self.assertSame(accepts_pair(5, NO_COMPLETION, 0, 1, ("none", ("by", one, one, leaf, leaf))), False)
            self.assertSame(accepts_pair(5, NO_COMPLETION, 0, 1, ("none", ("by", one, 5, leaf, leaf))), False)
            self.assertSame(accepts_pair(5, NO_COMPLETION, 0, 1, ("none", ("by", one, True, leaf, leaf))), False)
        self.assertSame(accepts_pair(5, NO_COMPLETION, 0, 1, ("none", ("by", False, 4, leaf, leaf))), False)
        again = ("by", 0, 4, ("by", 0, 4, leaf, leaf), leaf)
        self.assertSame(accepts_pair(5, NO_COMPLETION, 0, 1, ("none", again)), False)

    def test_the_first_tree_is_that_of_the_first_result(self):
        for one, other in combinations(range(5), 2):
            told = pair_evidence(5, HIDDEN, one, other)
            _, x, y, first, second = told[1]
            self.assertTrue(is_tree(5, HIDDEN + ((x, y),), first))
            self.assertSame(accepts_pair(5, HIDDEN, one, other, ("none", ("by", x, y, second, first))), False)
            self.assertSame(accepts_pair(5, HIDDEN, one, other, ("none", ("by", y, x, second, first))), False)
            self.assertSame(accepts_pair(5, HIDDEN, one, other, ("none", ("by", y, x, first, second))), False)

    def test_the_triangle_has_its_least_player_first(self):
        for four, expected in [((3, 0, 1, 2), True), ((3, 1, 2, 0), False), ((3, 2, 0, 1), False),
                               ((3, 0, 2, 1), False), ((0, 1, 2, 3), False), ((3, 0, 1, 3), False)]:
            self.assertSame(accepts_pair(4, NO_COMPLETION, 0, 1, ("none", ("no", four))), expected)

    def test_a_player_whom_all_three_beat(self):
        under = ((0, 1), (0, 3), (1, 2), (1, 3), (2, 0), (2, 3))
        self.assertSame(accepts_pair(4, under, 0, 1, ("none", ("no", (3, 0, 1, 2)))), True)
        mixed = ((0, 1), (0, 3), (1, 2), (1, 3), (2, 0), (3, 2))
        self.assertSame(accepts_pair(4, mixed, 0, 1, ("none", ("no", (3, 0, 1, 2)))), False)

    def test_a_known_result_needs_none_and_nothing_else(self):
        leaf = ("no", (3, 0, 1, 2))
        self.assertSame(accepts_pair(4, RING, 0, 1, ("forced", RING_DONE, None)), True)
        for value in (leaf, (), False, 0, "", "None", [], (None,)):
            self.assertSame(accepts_pair(4, RING, 0, 1, ("forced", RING_DONE, value)), False)
        self.assertSame(accepts_pair(4, RING, 2, 3, ("forced", RING_DONE, leaf)), True)
        self.assertSame(accepts_pair(4, RING, 2, 3, ("forced", RING_DONE, None)), False)
        self.assertSame(accepts_pair(4, NO_COMPLETION, 0, 1, ("forced", ((1,), (2,), (0,), (0, 1, 2)), None)), False)

    def test_completions_are_circular_and_have_the_known_results(self):
        known = ((3, 0), (3, 1))
        bad, good = ((1,), (2,), (0,), (0, 1, 2)), ((1,), (2,), (0, 3), (0, 1))
        turned = ((2,), (0,), (1, 3), (0, 1))
        self.assertSame(accepts_pair(4, known, 0, 1, ("open", good, turned)), True)
        self.assertSame(accepts_pair(4, known, 0, 1, ("open", bad, turned)), False)
        self.assertSame(accepts_pair(4, known, 0, 1, ("open", turned, good)), False)
        self.assertSame(accepts_pair(4, known, 0, 1, ("open", good, good)), False)
        self.assertSame(accepts_pair(4, (*known, (3, 2)), 0, 1, ("open", good, turned)), False)
        self.assertSame(accepts_pair(5, known, 0, 1, ("open", good, turned)), False)
        self.assertSame(accepts_pair(3, ((0, 1),), 0, 1, ("forced", ((2,), (0,), (1,)), None)), False)
        self.assertSame(accepts_pair(3, ((0, 1),), 0, 1, ("forced", ((1,), (2,), (0,)), None)), True)

    def test_exactly_one_word(self):
        for players, known, one, other in cases()[::3]:
            told = {word: pair_evidence(players, known, one, other)[1:] for word in WORDS}
            for word in WORDS:
                accepted = accepts_pair(players, known, one, other, (word, *told[word]))
                self.assertEqual(accepted, word == word_of(players, known, one, other))

    def test_every_value_is_valid(self):
        values = [*NO_TOURNAMENTS, *NO_PLAYERS, ("no",), ("by",), ("no", ()), ("no", None), ("by", 0, 1, None, None),
                  ("open",), ("open", None), ("open", None, None), ("forced", None, None), ("none",), ("none", None),
                  [("open",)], (["open"], (), ()), ({}, (), ()), (("none",), ()), ("none", [], ()), ("", (), ())]
        for value in values:
            for players, known, one, other in [(2, (), 0, 1), (4, RING, 2, 3), (4, NO_COMPLETION, 0, 3), (5, (), 3, 4)]:
                for judged in (value, ("none", value), ("open", value, value), ("forced", value, None), (value,),
                               ("none", ("no", value)), ("none", ("by", 2, 3, value, value)), (value, value),
                               ("forced", RING_DONE, value), (value, value, value)):
                    expected = is_pair_evidence(players, known, one, other, judged)
                    self.assertSame(accepts_pair(players, known, one, other, judged), expected)

    def test_trees_of_any_form_and_depth(self):
        leaf = ("no", (3, 0, 1, 2))
        left = right = both = alone = leaf
        listed = []
        for _ in range(100000):
            left, right, alone = ("by", 0, 4, left, leaf), ("by", 0, 4, leaf, right), (alone,)
            both, listed = ("by", 0, 1, both, both), [listed]
        for known, one, other in [((), 0, 1), (NO_COMPLETION, 0, 4), (RING, 2, 3), (HIDDEN, 0, 1)]:
            for value in (left, right, both, alone, listed, ("none", left), ("none", right), ("none", both),
                          ("none", alone), ("none", listed), ("none", ("no", alone)), ("none", ("no", listed)),
                          ("forced", left, right), ("open", alone, both), ("forced", RING_DONE, left),
                          ("by", 0, 4, left, right), (left, right), (alone, alone, alone),
                          ("none", ("by", alone, listed, leaf, leaf)), ("none", ("by", 0, 4, alone, alone))):
                self.assertIs(accepts_pair(5, known, one, other, value), False)

    def test_a_tree_as_deep_as_it_can_be(self):
        self.assertSame(accepts_pair(5, NO_COMPLETION, 0, 4, ("none", last_tree(5, NO_COMPLETION))), True)
        whole = ((0, 1), (0, 2), (0, 3), (0, 4), (1, 2), (1, 3), (1, 4), (2, 3), (3, 4), (4, 2))
        self.assertSame(accepts_pair(5, whole, 0, 1, ("none", last_tree(5, whole))), True)
        self.assertSame(accepts_pair(5, whole[3:], 0, 1, ("none", last_tree(5, whole[4:]))), False)

    def test_examples(self):
        leaf = ("no", (3, 0, 1, 2))
        self.assertSame(accepts_pair(4, RING, 2, 3, ("forced", RING_DONE, leaf)), True)
        self.assertSame(accepts_pair(4, RING, 0, 1, ("forced", RING_DONE, None)), True)
        self.assertSame(accepts_pair(2, (), 0, 1, TWO_OPEN), True)
        self.assertSame(accepts_pair(2, (), 0, 1, ["open", ((1,), ()), ((), (0,))]), False)
        self.assertSame(accepts_pair(2, (), 0, 1, ("open", ((1,), ()), ((), (False,)))), False)
        self.assertSame(accepts_pair(2, (), 0, 1, ("open", ((True,), ()), ((), (0,)))), False)


class Refusals(unittest.TestCase):
    """Point 107, with point 8."""

    def names(self, *arguments):
        """The name that both functions tell, with any value behind the arguments of the judge."""
        names = {name_of_refusal(pair_evidence, *arguments)}
        for value in (None, TWO_OPEN, ()):
            names.add(name_of_refusal(accepts_pair, *arguments, value))
        self.assertEqual(len(names), 1, arguments)
        return names.pop()

    def test_what_is_no_number_of_players_alone_and_with_anything_behind_it(self):
        for players in NO_NUMBERS:
            for known, one, other in product([(), ((0, 0),), None, [], NO_COMPLETION], [0, -1, None], [1, 0, True]):
                self.assertEqual(self.names(players, known, one, other), "players", (players, known))

    def test_what_are_no_known_results_alone_and_with_anything_behind_it(self):
        for known in NO_KNOWN:
            for one, other in [(0, 1), (1, 2), (0, None), (None, 1), (-1, 3), (1, 0), (True, False)]:
                self.assertEqual(self.names(3, known, one, other), "known", known)

    def test_what_is_no_first_player_alone_and_with_anything_behind_it(self):
        for one in NO_PLAYER:
            for other in (0, 1, 2, 3, -1, None, True, (1,), "1"):
                self.assertEqual(self.names(3, (), one, other), "one", one)
                self.assertEqual(self.names(3, ((0, 1), (2, 1)), one, other), "one", one)
        for players in (1, 2, 3, 4, 5):
            self.assertEqual(self.names(players, (), players, players + 1), "one")

    def test_what_is_no_second_player(self):
        for one in (0, 1, 2):
            for other in [*NO_PLAYER, *range(one + 1)]:
                self.assertEqual(self.names(3, ((0, 1),), one, other), "other", (one, other))
        for players in (1, 2, 3, 4, 5):
            for one in range(players):
                for other in (players, players + 1, 10**30, one, 0, -1):
                    self.assertEqual(self.names(players, (), one, other), "other", (players, one, other))

    def test_all_others_are_possible(self):
        for players, known, one, other in cases()[::9]:
            self.assertIs(type(pair_evidence(players, known, one, other)), tuple)


class NothingIsKept(unittest.TestCase):
    """Point 2."""

    def test_judged_lists_stay_as_they_were(self):
        judged = ["open", [[1], []], [[], [0]]]
        self.assertIs(accepts_pair(2, (), 0, 1, judged), False)
        self.assertIs(accepts_pair(2, (), 0, 1, tuple(judged)), False)
        self.assertEqual(judged, ["open", [[1], []], [[], [0]]])


if __name__ == "__main__":
    unittest.main()
