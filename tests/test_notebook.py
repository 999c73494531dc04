"""Points 120 to 123, 125 to 131, with 2, 3 and 8: notebooks."""

import unittest
from itertools import combinations, product

from cases import Same
from notebooks import (
    KNOW, LONG, MORE, MOST_COMMANDS, TRIANGLE, TURN, filled, page_behind, plain_records, plain_told, possible,
    some_journals, told,
)
from plain import subsets, switched_rows
from plain_known import (
    all_commands, all_completions, all_forced, are_right_records, behind, conflict, is_command, why_not,
)
from wrong import NO_COMMANDS, NO_NUMBERS, name_of_refusal, refusal
from ringbeats.cases import pair_evidence
from ringbeats.errors import BadValue, NotPossible, TooLarge
from ringbeats.journals import are_right
from ringbeats.known import best_question, count_completions, forced
from ringbeats.notebook import Notebook

METHODS = ("players", "results", "count", "forced", "question", "journal", "records")


def short_journals(players, length):
    """Every journal of so many commands that are possible; of those that switch, some alone."""
    if length == 0:
        yield ()
        return
    for journal in short_journals(players, length - 1):
        for command in possible(page_behind(players, journal)):
            if command[0] != "switch" or command[1] in ((), (0,), (0, 1)):
                yield (*journal, command)


class Told(Same):
    def test_a_new_notebook(self):
        for players, many in ((1, 1), (2, 2), (3, 8), (4, 48), (5, 384)):
            notebook = Notebook(players)
            self.assertSame(notebook.players(), players)
            self.assertSame(notebook.results(), ())
            self.assertSame(notebook.count(), many)
            self.assertSame(notebook.forced(), ())
            self.assertSame(notebook.question(), None if players == 1 else (0, 1))
            self.assertSame(notebook.journal(), ())
            self.assertSame(notebook.records(), ())
            self.assertSame(notebook.undo(), None)
            self.assertSame(told(notebook), plain_told(players, ()))

    def test_behind_all_short_journals(self):
        for players, length in ((1, 2), (2, 1), (2, 2), (3, 1), (3, 2)):
            for journal in short_journals(players, length):
                self.assertSame(told(filled(players, journal)), plain_told(players, journal))

    def test_behind_long_journals(self):
        for players in (1, 2, 3, 4, 5):
            for journal in some_journals(players, 3, MOST_COMMANDS):
                notebook = Notebook(players)
                for at, command in enumerate(journal):
                    page = page_behind(players, journal[:at + 1])
                    self.assertSame(notebook.act(command), len(all_completions(*page)))
                    self.assertSame((notebook.players(), notebook.results()), page)
                self.assertSame(told(notebook), plain_told(players, journal))

    def test_what_is_known_always_has_a_completion(self):
        for players in (2, 3, 4, 5):
            for journal in some_journals(players, 4, MOST_COMMANDS):
                for at in range(MOST_COMMANDS + 1):
                    number, results = page_behind(players, journal[:at])
                    self.assertEqual(conflict(number, results), None)
                notebook = filled(players, journal)
                self.assertGreater(notebook.count(), 0)
                known = tuple(sorted(notebook.results()))
                self.assertSame(notebook.count(), count_completions(notebook.players(), known))
                self.assertSame(notebook.forced(), forced(notebook.players(), known))
                self.assertSame(notebook.question(), best_question(notebook.players(), known))

    def test_results_stand_in_the_sequence_in_which_they_came(self):
        notebook = filled(4, (("know", 3, 1), ("know", 0, 2), ("know", 2, 1)))
        self.assertSame(notebook.results(), ((3, 1), (0, 2), (2, 1)))
        notebook.act(("switch", (2,)))
        self.assertSame(notebook.results(), ((3, 1), (2, 0), (1, 2)))
        notebook.act(("forget", 0, 2))
        self.assertSame(notebook.results(), ((3, 1), (1, 2)))
        notebook.act(("know", 0, 2))
        self.assertSame(notebook.results(), ((3, 1), (1, 2), (0, 2)))

    def test_example(self):
        notebook = Notebook(3)
        self.assertSame([notebook.act(command) for command in (*TRIANGLE, TURN)], [4, 2, 1, 1])
        self.assertSame(notebook.results(), ((1, 0), (2, 1), (2, 0)))
        self.assertSame(notebook.undo(), TURN)
        self.assertSame([notebook.act(("forget", 1, 0)), notebook.act(MORE)], [2, 12])
        self.assertSame((notebook.results(), notebook.forced()), (((1, 2), (2, 0)), ((1, 2), (2, 0))))
        self.assertSame([notebook.act(KNOW), notebook.act(("know", 3, 0)), notebook.act(("know", 3, 1))], [6, 3, 1])
        self.assertSame((notebook.forced()[3], notebook.question()), ((2, 3), None))


class Commands(Same):
    """Points 121, 122, 126 to 128."""

    def test_each_command_behind_short_journals(self):
        for players, length in ((1, 1), (2, 1), (3, 1), (3, 2)):
            for journal in list(short_journals(players, length))[::2]:
                self.check_each(players, journal)

    def test_each_command_behind_long_journals(self):
        for players in (2, 4, 5):
            for journal in some_journals(players, 2, MOST_COMMANDS):
                for at in (7, MOST_COMMANDS - 1):
                    self.check_each(players, journal[:at])

    def check_each(self, players, journal):
        page = page_behind(players, journal)
        before = plain_told(players, journal)[:3]
        whole = filled(players, journal)
        for command in all_commands(page[0]):
            notebook = whole.twin()
            why = why_not(*page, command)
            if why is not None:
                self.assertEqual(refusal(notebook.act, command), (NotPossible, why), (journal, command))
                self.assertSame((notebook.players(), notebook.results(), notebook.count()), before)
                self.assertSame(notebook.journal(), journal)
            else:
                new = behind(*page, command)
                self.assertSame(notebook.act(command), len(all_completions(*new)))
                self.assertSame((notebook.players(), notebook.results()), new)
                self.assertSame(notebook.journal(), (*journal, command))

    def test_know_leaves_the_completions_that_had_the_result(self):
        for journal in some_journals(4, 3, 7):
            page = page_behind(4, journal)
            for command in possible(page):
                if command[0] == "know":
                    left = [tournament for tournament in all_completions(*page)
                            if command[2] in tournament[command[1]]]
                    self.assertSame(filled(4, journal).act(command), len(left))

    def test_a_forced_result_can_come_and_not_its_contrary(self):
        found = 0
        for players, journal in [(4, (*TRIANGLE, ("know", 3, 0), ("know", 3, 1))),
                                 *((4, journal) for journal in some_journals(4, 6, 12))]:
            notebook = filled(players, journal)
            for one, other in notebook.forced():
                if (one, other) not in notebook.results():
                    found += 1
                    self.assertEqual(refusal(notebook.act, ("know", other, one)), (NotPossible, "no"))
                    self.assertSame(notebook.act(("know", one, other)), filled(players, journal).count())
                    notebook.undo()
        self.assertGreater(found, 0)

    def test_known_comes_before_no(self):
        notebook = filled(4, (*TRIANGLE, ("know", 3, 0), ("know", 3, 1)))
        self.assertEqual(refusal(notebook.act, ("know", 3, 2)), (NotPossible, "no"))
        self.assertEqual(refusal(notebook.act, ("know", 2, 3)), ("returned", 1))
        for result in notebook.forced():
            self.assertEqual(refusal(notebook.act, ("know", *result)), (NotPossible, "known"))
            self.assertEqual(refusal(notebook.act, ("know", *result[::-1])), (NotPossible, "known"))

    def test_forget_whoever_beat_whom(self):
        for command in (("forget", 0, 1), ("forget", 1, 0)):
            for first in (("know", 0, 1), ("know", 1, 0)):
                notebook = filled(3, (first, ("know", 1, 2), command))
                self.assertSame(notebook.results(), ((1, 2),))
                self.assertEqual(refusal(notebook.act, command), (NotPossible, "unknown"))
                self.assertSame(notebook.act(("know", 0, 1)), 2)

    def test_switch_turns_results_of_which_exactly_one_player_is_in_it(self):
        results = (("know", 0, 1), ("know", 1, 2), ("know", 3, 0))
        for players, expected in [((), ((0, 1), (1, 2), (3, 0))), ((0,), ((1, 0), (1, 2), (0, 3))),
                                  ((1,), ((1, 0), (2, 1), (3, 0))), ((0, 1), ((0, 1), (2, 1), (0, 3))),
                                  ((0, 1, 2, 3), ((0, 1), (1, 2), (3, 0))), ((4,), ((0, 1), (1, 2), (3, 0)))]:
            notebook = filled(5, results)
            many = notebook.count()
            self.assertSame(notebook.act(("switch", players)), many)
            self.assertSame(notebook.results(), expected)

    def test_behind_a_switch_the_completions_are_the_switched_ones(self):
        for journal in some_journals(4, 3, 8):
            page = page_behind(4, journal)
            for players in subsets(page[0])[::3]:
                notebook = filled(4, (*journal, ("switch", players)))
                expected = {switched_rows(tournament, players) for tournament in all_completions(*page)}
                self.assertEqual(set(all_completions(notebook.players(), notebook.results())), expected)
                self.assertSame(notebook.count(), len(expected))
                notebook.act(("switch", players))
                self.assertSame((notebook.players(), notebook.results()), page)
                self.assertSame(notebook.journal(), (*journal, ("switch", players), ("switch", players)))

    def test_more_players(self):
        for players in (1, 2, 3, 4):
            for journal in [(), *(journal for journal in some_journals(players, 2, 6))]:
                notebook = filled(players, journal)
                many, before, results = notebook.count(), notebook.players(), notebook.results()
                if before < 5:
                    self.assertSame(notebook.act(MORE), 2 * before * many)
                    self.assertSame((notebook.players(), notebook.results()), (before + 1, results))
        notebook = filled(1, (MORE,) * 4)
        self.assertSame((notebook.players(), notebook.count()), (5, 384))
        self.assertEqual(refusal(notebook.act, MORE), (NotPossible, "many"))
        self.assertEqual(refusal(Notebook(5).act, MORE), (NotPossible, "many"))

    def test_what_was_known_and_then_forgotten_changes_nothing_but_the_journal(self):
        for journal in some_journals(3, 4, 9):
            page = page_behind(3, journal)
            for command in possible(page):
                if command[0] == "know":
                    added = (command, ("forget", *command[1:]))
                    notebook = filled(3, (*journal, *added))
                    before = told(filled(3, journal))
                    self.assertSame(told(notebook)[:5], before[:5])
                    self.assertSame(notebook.journal(), journal + added)

    def test_one_completion_left(self):
        found = 0
        for players in (2, 3, 4):
            for journal in some_journals(players, 5, 9):
                notebook = filled(players, journal)
                number = notebook.players()
                is_single = notebook.count() == 1
                found += is_single
                self.assertEqual(is_single, len(notebook.forced()) == number * (number - 1) // 2)
                self.assertEqual(is_single, notebook.question() is None)
        self.assertGreater(found, 0)

    def test_evidence_agrees_with_what_is_told(self):
        notebook = filled(4, (*TRIANGLE, ("know", 3, 0)))
        known = tuple(sorted(notebook.results()))
        for pair in combinations(range(4), 2):
            is_forced = pair in notebook.forced() or pair[::-1] in notebook.forced()
            self.assertEqual(pair_evidence(4, known, *pair)[0], "forced" if is_forced else "open")

    def test_commands_at_the_twentieth_and_the_twenty_first_place(self):
        notebook = filled(3, LONG[:19])
        self.assertEqual(len(notebook.journal()), 19)
        notebook.act(LONG[19])
        self.assertSame(notebook.journal(), LONG)
        before = told(notebook)
        page = page_behind(3, LONG)
        words = set()
        for command in all_commands(page[0]):
            why = why_not(*page, command)
            expected = (TooLarge, "commands") if why is None else (NotPossible, why)
            self.assertEqual(refusal(notebook.act, command), expected, command)
            words.add(why)
        self.assertLessEqual({None, "known", "unknown", "many"}, words)
        self.assertSame(told(notebook), before)
        self.assertSame(notebook.undo(), LONG[19])
        self.assertEqual(refusal(notebook.act, ("switch", ()))[0], "returned")
        self.assertEqual(refusal(notebook.act, ("switch", ())), (TooLarge, "commands"))

    def test_no_at_the_twenty_first_place(self):
        journal = (*TRIANGLE, ("know", 3, 0), ("know", 3, 1)) + (("switch", ()),) * 15
        notebook = filled(4, journal)
        self.assertEqual(refusal(notebook.act, ("know", 3, 2)), (NotPossible, "no"))
        self.assertEqual(refusal(notebook.act, ("know", 2, 3)), (TooLarge, "commands"))
        self.assertEqual(refusal(notebook.act, ("know", 1, 0)), (NotPossible, "known"))
        self.assertEqual(refusal(notebook.act, ("know", 4, 0)), (BadValue, "command"))


class Undo(Same):
    """Point 123."""

    def test_until_nothing_is_left(self):
        for players in (1, 2, 3, 4, 5):
            for journal in [*some_journals(players, 2, MOST_COMMANDS), *([LONG] if players == 3 else [])]:
                notebook = filled(players, journal)
                for at in range(len(journal) - 1, -1, -1):
                    self.assertSame(notebook.undo(), journal[at])
                    self.assertSame(notebook.journal(), journal[:at])
                    self.assertSame((notebook.players(), notebook.results()), page_behind(players, journal[:at]))
                self.assertSame(told(notebook), plain_told(players, ()))
                for _ in range(2):
                    self.assertSame(notebook.undo(), None)
                self.assertSame(told(notebook), plain_told(players, ()))

    def test_everything_is_as_it_was(self):
        for journal in (LONG, *some_journals(3, 2, 12)):
            for at in range(0, len(journal), 3):
                notebook = filled(3, journal[:at])
                before = told(notebook)
                notebook.act(journal[at])
                self.assertSame(notebook.undo(), journal[at])
                self.assertSame(told(notebook), before)

    def test_acting_again(self):
        notebook = filled(3, TRIANGLE)
        notebook.undo()
        self.assertSame(notebook.act(("know", 0, 2)), 1)
        self.assertSame(notebook.journal(), (*TRIANGLE[:2], ("know", 0, 2)))
        self.assertSame(told(notebook), plain_told(3, (*TRIANGLE[:2], ("know", 0, 2))))

    def test_undoing_more_players_and_a_switch(self):
        notebook = filled(2, (KNOW, MORE, ("know", 2, 0), ("switch", (0,))))
        self.assertSame(notebook.results(), ((1, 0), (0, 2)))
        self.assertSame(notebook.undo(), ("switch", (0,)))
        self.assertSame(notebook.results(), ((0, 1), (2, 0)))
        self.assertSame([notebook.undo(), notebook.undo()], [("know", 2, 0), MORE])
        self.assertSame(notebook.players(), 2)
        self.assertEqual(refusal(notebook.act, ("know", 2, 0)), (BadValue, "command"))


class Records(Same):
    """Point 125."""

    def test_each_command_with_the_first_completion_behind_it(self):
        for players in (1, 2, 3, 4, 5):
            for journal in some_journals(players, 2, MOST_COMMANDS):
                for at in (0, 1, 5, MOST_COMMANDS):
                    records = filled(players, journal[:at]).records()
                    self.assertSame(records, plain_records(players, journal[:at]))

    def test_they_are_right(self):
        for players in (1, 2, 3, 4, 5):
            for journal in [*some_journals(players, 3, MOST_COMMANDS), *([LONG] if players == 3 else [])]:
                records = filled(players, journal).records()
                self.assertIs(are_right_records(players, records), True)
                self.assertIs(are_right(players, records), True)

    def test_examples(self):
        self.assertSame(filled(2, (("know", 1, 0), MORE)).records(),
                        ((("know", 1, 0), ((), (0,))), (MORE, ((), (0,), (0, 1)))))
        self.assertSame(filled(1, ()).records(), ())


class Twins(Same):
    """Points 2, 123 and 129."""

    def test_a_twin_tells_the_same(self):
        for players in (1, 2, 3, 4, 5):
            for journal in some_journals(players, 2, 9):
                notebook = filled(players, journal)
                self.assertSame(told(notebook.twin()), told(notebook))
                self.assertIs(type(notebook.twin()), Notebook)
                self.assertIsNot(notebook.twin(), notebook)

    def test_what_is_done_to_the_one_does_not_change_the_other(self):
        for journal in (LONG[:12], TRIANGLE, ()):
            notebook = filled(3, journal)
            before = told(notebook)
            twin = notebook.twin()
            twin.act(("switch", (0, 2)))
            self.assertSame(told(notebook), before)
            while twin.undo() is not None:
                self.assertSame(told(notebook), before)
            self.assertSame(told(twin), plain_told(3, ()))
            other = notebook.twin()
            while notebook.undo() is not None:
                self.assertSame(told(other), before)
            notebook.act(MORE)
            self.assertSame(told(other), before)
            self.assertSame(other.twin().undo(), journal[-1] if journal else None)
            self.assertSame(told(other), before)

    def test_a_twin_can_be_undone_to_the_first_number_of_players(self):
        twin = filled(2, (MORE, MORE)).twin()
        twin.undo()
        twin.undo()
        self.assertSame((twin.players(), twin.undo()), (2, None))
        self.assertSame(twin.twin().players(), 2)

    def test_two_notebooks_of_their_own(self):
        one, other = Notebook(3), Notebook(3)
        one.act(KNOW)
        self.assertSame(told(other), plain_told(3, ()))
        other.act(MORE)
        self.assertSame(told(one), plain_told(3, (KNOW,)))

    def test_what_it_tells_depends_on_its_players_and_its_journal_alone(self):
        notebook = Notebook(3)
        for command in (KNOW, MORE, ("know", 3, 1), ("switch", (0, 3))):
            notebook.act(command)
        for _ in range(3):
            notebook.undo()
        refusal(notebook.act, ("know", 1, 0))
        refusal(notebook.act, None)
        for command in TRIANGLE[1:]:
            notebook.act(command)
        self.assertSame(told(notebook), told(filled(3, TRIANGLE)))

    def test_what_is_returned_may_be_changed(self):
        """Tuples of integers, strings and tuples are returned, by which nobody can change a notebook."""
        notebook = filled(3, LONG[:12])
        for method in METHODS:
            value = getattr(notebook, method)()
            self.assertEqual(hash(value), hash(getattr(notebook, method)()))
            self.assertIn(type(value), (int, tuple, type(None)))
        self.assertSame(told(notebook), plain_told(3, LONG[:12]))


class Refusals(Same):
    """Point 130, with point 8."""

    def test_what_is_no_number_of_players(self):
        for players in NO_NUMBERS:
            self.assertEqual(name_of_refusal(Notebook, players), "players", players)

    def test_what_is_no_command(self):
        for journal in ((), (KNOW,), TRIANGLE, (("switch", ()),) * 20):
            notebook = filled(3, journal)
            before = told(notebook)
            for command in NO_COMMANDS:
                self.assertFalse(is_command(3, command))
                self.assertEqual(name_of_refusal(notebook.act, command), "command", command)
            self.assertSame(told(notebook), before)

    def test_commands_that_do_not_fit_the_players_that_there_are_then(self):
        for players in (1, 2, 3, 4, 5):
            for journal in [(), *some_journals(players, 1, 11)]:
                notebook = filled(players, journal)
                there = notebook.players()
                for command in [("know", 0, there), ("know", there, 0), ("forget", there, 0), ("forget", 0, there),
                                ("switch", (there,)), ("switch", tuple(range(there + 1))), ("know", there, there)]:
                    self.assertEqual(refusal(notebook.act, command), (BadValue, "command"), (there, command))
                    self.assertSame(notebook.journal(), journal)
        notebook = Notebook(2)
        self.assertEqual(refusal(notebook.act, ("know", 0, 2)), (BadValue, "command"))
        notebook.act(MORE)
        self.assertEqual(refusal(notebook.act, ("know", 0, 2)), ("returned", 4))
        notebook.undo()
        notebook.undo()
        self.assertEqual(refusal(notebook.act, ("forget", 0, 2)), (BadValue, "command"))

    def test_a_wrong_command_comes_before_one_that_is_not_possible(self):
        notebook = filled(5, (KNOW,))
        for command, expected in [(("know", 0, 1, 2), (BadValue, "command")), (("more", 1), (BadValue, "command")),
                                  (("know", 1, 0), (NotPossible, "known")), (("more",), (NotPossible, "many")),
                                  (("forget", 2, 3), (NotPossible, "unknown")),
                                  (("forget", 2, 2), (BadValue, "command")),
                                  (("know", True, 0), (BadValue, "command"))]:
            self.assertEqual(refusal(notebook.act, command), expected)

    def test_a_command_that_is_refused_changes_nothing(self):
        for journal in some_journals(4, 2, 9):
            notebook = filled(4, journal)
            before = told(notebook)
            page = page_behind(4, journal)
            for command in [*all_commands(page[0]), *NO_COMMANDS]:
                if command not in possible(page):
                    self.assertNotEqual(refusal(notebook.act, command)[0], "returned")
            self.assertSame(told(notebook), before)

    def test_commands_in_lists_are_not_kept(self):
        players = [0, 1]
        notebook = Notebook(3)
        self.assertEqual(refusal(notebook.act, ("switch", players)), (BadValue, "command"))
        self.assertEqual(refusal(notebook.act, ["switch", (0, 1)]), (BadValue, "command"))
        self.assertEqual(players, [0, 1])
        self.assertSame(notebook.journal(), ())

    def test_all_that_fit_are_commands(self):
        for players, command in product((1, 2, 3, 4, 5), [("know", 0, 1), ("forget", 1, 0), ("switch", ()), MORE]):
            expected = is_command(players, command)
            self.assertEqual(refusal(Notebook(players).act, command) != (BadValue, "command"), expected)

    def test_forced_by_all_completions(self):
        notebook = filled(4, (*TRIANGLE, ("know", 3, 0), ("know", 3, 1)))
        self.assertSame(notebook.forced(), all_forced(4, notebook.results()))


if __name__ == "__main__":
    unittest.main()
