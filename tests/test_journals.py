"""Points 120 to 125 and 130, with 2, 3 and 8: replayed notebooks, and the judge of records."""

import unittest
from itertools import product

from cases import Same, changed
from notebooks import (
    KNOW, LONG, MORE, MOST_COMMANDS, TRIANGLE, TURN, filled, page_behind, plain_records, plain_told, some_journals,
    told,
)
from plain_known import all_commands, all_completions, are_right_records, behind, why_not
from wrong import NO_COMMANDS, NO_JOURNALS, NO_NUMBERS, NO_TOURNAMENTS, name_of_refusal, refusal
from ringbeats.errors import BadValue, NotPossible
from ringbeats.journals import are_right, replayed
from ringbeats.notebook import Notebook

STILL = ("switch", ())
RIGHT = ((("know", 1, 0), ((), (0,))), (MORE, ((2,), (0,), (1,))))
BAD_FOUR = ((1,), (2,), (0,), (0, 1, 2))


def last_records(players, journal):
    """Each command with the last completion behind it: records that a notebook does not tell."""
    pages = [page_behind(players, journal[:at + 1]) for at in range(len(journal))]
    return tuple((command, max(all_completions(*page))) for command, page in zip(journal, pages))


class Replayed(Same):
    def test_it_tells_the_same_as_the_notebook(self):
        for players in (1, 2, 3, 4, 5):
            for journal in some_journals(players, 3, MOST_COMMANDS):
                for at in (0, 1, 8, MOST_COMMANDS):
                    notebook = replayed(players, journal[:at])
                    self.assertIs(type(notebook), Notebook)
                    self.assertSame(told(notebook), plain_told(players, journal[:at]))

    def test_from_the_journal_of_a_notebook(self):
        notebook = filled(3, LONG)
        again = replayed(3, notebook.journal())
        self.assertSame(told(again), told(notebook))
        while notebook.undo() is not None:
            self.assertIsNotNone(again.undo())
            self.assertSame(again.journal(), notebook.journal())
            self.assertSame(again.results(), notebook.results())
        self.assertSame(again.undo(), None)

    def test_what_is_done_to_it_changes_no_other_one(self):
        notebook = filled(3, LONG[:9])
        before = told(notebook)
        again, other = replayed(3, notebook.journal()), replayed(3, notebook.journal())
        again.act(("switch", (2,)))
        again.undo()
        again.undo()
        self.assertSame((told(notebook), told(other)), (before, before))
        notebook.undo()
        self.assertSame(told(other), before)

    def test_twenty_commands(self):
        self.assertSame(replayed(3, LONG).journal(), LONG)
        self.assertSame(replayed(5, (STILL,) * 20).journal(), (STILL,) * 20)
        self.assertSame(replayed(1, (MORE,) * 4).players(), 5)

    def test_examples(self):
        self.assertSame(replayed(2, (("know", 1, 0), MORE)).count(), 4)
        self.assertSame(told(replayed(4, ())), told(Notebook(4)))


class AreRight(Same):
    def check(self, players, records):
        self.assertSame(are_right(players, records), are_right_records(players, records))

    def test_records_of_a_notebook_and_those_of_others(self):
        for players in (1, 2, 3, 4, 5):
            for journal in [*some_journals(players, 3, MOST_COMMANDS), *([LONG] if players == 3 else [])]:
                for at in (0, 1, 8, MOST_COMMANDS):
                    self.assertSame(are_right(players, filled(players, journal[:at]).records()), True)
                    self.assertSame(are_right(players, plain_records(players, journal[:at])), True)
                    self.assertSame(are_right(players, last_records(players, journal[:at])), True)

    def test_for_another_number_of_players(self):
        records = filled(3, TRIANGLE).records()
        for players in (1, 2, 4, 5):
            self.assertSame(are_right(players, records), False)
        for players in (1, 2, 3, 4, 5):
            self.assertSame(are_right(players, ()), True)

    def test_every_command_with_every_small_tournament(self):
        tournaments = [tournament for players in (1, 2, 3, 4) for tournament in all_completions(players, ())]
        for players, journal in [(1, ()), (2, ()), (2, (KNOW,)), (3, TRIANGLE[:2]), (3, TRIANGLE), (3, (KNOW, TURN))]:
            page = page_behind(players, journal)
            before = last_records(players, journal)
            for command in all_commands(page[0]):
                why = why_not(*page, command)
                found = all_completions(*behind(*page, command)) if why in (None, "no") else []
                for tournament in tournaments:
                    records = (*before, (command, tournament))
                    self.assertSame(are_right(players, records), tournament in found)

    def test_no_know_that_is_not_possible(self):
        journal = (*TRIANGLE, ("know", 3, 0), ("know", 3, 1))
        before = filled(4, journal).records()
        done = ((1,), (2,), (0, 3), (0, 1))
        self.assertSame(are_right(4, (*before, (("know", 2, 3), done))), True)
        for tournament in [*all_completions(4, ()), BAD_FOUR]:
            self.assertSame(are_right(4, (*before, (("know", 3, 2), tournament))), False)

    def test_tournaments_that_are_not_circular(self):
        journal = (*TRIANGLE, ("know", 3, 0), ("know", 3, 1))
        before = filled(4, journal).records()
        self.assertSame(are_right(4, (*before[:-1], (journal[-1], BAD_FOUR))), False)
        self.assertSame(are_right(4, ((STILL, BAD_FOUR),)), False)
        self.assertSame(are_right(4, ((STILL, ((1, 2, 3), (2,), (3,), (1,))),)), False)
        self.assertSame(are_right(4, ((STILL, ((1, 2, 3), (2, 3), (3,), ())),)), True)

    def test_twenty_and_twenty_one_records(self):
        for players in (1, 2, 5):
            tournament = all_completions(players, ())[-1]
            self.assertSame(are_right(players, ((STILL, tournament),) * 20), True)
            self.assertSame(are_right(players, ((STILL, tournament),) * 21), False)
            self.assertSame(are_right(players, ((STILL, tournament),) * 1000), False)
        self.assertSame(are_right(3, (*filled(3, LONG).records(), (STILL, ((),)))), False)

    def test_each_part_changed(self):
        cases = [(2, (("know", 1, 0), MORE)), (1, (MORE,)), (3, (KNOW, TURN, ("forget", 0, 1))), (4, (MORE, KNOW)),
                 (3, (*TRIANGLE[:2], ("switch", (0, 2))))]
        for players, journal in cases:
            for records in (filled(players, journal).records(), last_records(players, journal)):
                self.assertSame(are_right(players, records), True)
                for value in changed(records):
                    self.check(players, value)

    def test_records_left_out_doubled_and_in_another_sequence(self):
        for players in (2, 3, 4):
            for journal in some_journals(players, 3, 12):
                records = filled(players, journal).records()
                for at in range(len(records)):
                    self.check(players, records[:at] + records[at + 1:])
                    self.check(players, records[:at + 1] + records[at:])
                    self.check(players, records[:at] + records[at:at + 2][::-1] + records[at + 2:])
                    self.check(players, records[:at])
                    self.check(players, records[at:])

    def test_hindrances(self):
        two, other = ((1,), ()), ((), (0,))
        for command, tournament in [(("know", 0, 1), two), (("know", 1, 0), two), (("know", 1, 0), other)]:
            self.assertSame(are_right(2, ((KNOW, two), (command, tournament))), False)
        self.assertSame(are_right(2, ((("forget", 0, 1), two),)), False)
        self.assertSame(are_right(2, ((KNOW, two), (("forget", 1, 0), other), (("know", 1, 0), other))), True)
        self.assertSame(are_right(2, ((KNOW, two), (("forget", 1, 0), other), (("forget", 1, 0), other))), False)
        five = all_completions(5, ())[0]
        self.assertSame(are_right(4, ((MORE, five),)), True)
        self.assertSame(are_right(4, ((MORE, five), (MORE, five))), False)
        self.assertSame(are_right(5, ((MORE, five),)), False)
        self.assertSame(are_right(4, ((MORE, five), (("know", 4, 0), five))), True)
        self.assertSame(are_right(4, ((("know", 4, 0), five),)), False)

    def test_every_value_is_valid(self):
        values = [*NO_TOURNAMENTS, *NO_COMMANDS, *NO_JOURNALS]
        for value, players in product(values, (1, 2, 3)):
            tournament = all_completions(players, ())[0]
            self.check(players, value)
            self.check(players, (value,))
            self.check(players, ((value, tournament),))
            self.check(players, ((STILL, value),))
            self.check(players, ((STILL, tournament), (value, tournament)))
            self.check(players, ((STILL, tournament, value),))
        for command in NO_COMMANDS:
            self.assertSame(are_right(3, ((command, ((1, 2), (2,), ())),)), False)
        self.assertSame(are_right(2, list(RIGHT)), False)
        self.assertSame(are_right(2, (list(RIGHT[0]), RIGHT[1])), False)

    def test_values_of_any_depth(self):
        deep, listed = (), []
        for _ in range(100000):
            deep, listed = (deep,), [listed]
        for value in (deep, listed, (deep, deep), (listed,), ((deep, deep),), ((STILL, deep),), ((STILL, listed),),
                      ((deep, ((),)),), ((("switch", deep), ((),)),), ((("know", deep, 0), ((),)),),
                      (((deep, 0, 1), ((1,), ())),), ((STILL, (deep, ())),)):
            self.assertIs(are_right(2, value), False)

    def test_examples(self):
        self.assertSame(are_right(2, RIGHT), True)
        self.assertSame(are_right(2, RIGHT[:1]), True)
        self.assertSame(are_right(2, RIGHT[1:]), True)
        self.assertSame(are_right(2, RIGHT[::-1]), False)


class Refusals(Same):
    """Point 130, with point 8."""

    def test_what_is_no_number_of_players_alone_and_with_anything_behind_it(self):
        for players in NO_NUMBERS:
            for journal in [(), (KNOW,), (("know", 0, 0),), (MORE,) * 21, *NO_JOURNALS]:
                self.assertEqual(name_of_refusal(replayed, players, journal), "players", (players, journal))
                self.assertEqual(name_of_refusal(are_right, players, journal), "players", (players, journal))

    def test_what_is_no_journal(self):
        for players, journal in product((1, 3, 5), NO_JOURNALS):
            self.assertEqual(name_of_refusal(replayed, players, journal), "journal", (players, journal))

    def test_twenty_and_twenty_one_tuples(self):
        self.assertEqual(refusal(replayed, 1, (STILL,) * 20)[0], "returned")
        self.assertEqual(refusal(replayed, 1, (STILL,) * 21), (BadValue, "journal"))
        self.assertEqual(refusal(replayed, 1, ((),) * 20), (BadValue, "command"))
        self.assertEqual(refusal(replayed, 1, ((),) * 21), (BadValue, "journal"))

    def test_what_its_commands_raise_one_after_another(self):
        for command in NO_COMMANDS:
            if isinstance(command, tuple):
                self.assertEqual(refusal(replayed, 3, (command,)), (BadValue, "command"), command)
                self.assertEqual(refusal(replayed, 3, (KNOW, command, KNOW)), (BadValue, "command"), command)
                self.assertEqual(refusal(replayed, 3, (KNOW, KNOW, command)), (NotPossible, "known"), command)
        for journal, expected in [
            ((KNOW, ("know", 1, 0)), (NotPossible, "known")), ((("forget", 0, 1),), (NotPossible, "unknown")),
            ((MORE,) * 3, (NotPossible, "many")), ((("know", 0, 3),), (BadValue, "command")),
            ((*TRIANGLE, MORE, ("know", 3, 0), ("know", 3, 1), ("know", 3, 2)), (NotPossible, "no")),
            ((("forget", 0, 1), ()), (NotPossible, "unknown")), (((), ("forget", 0, 1)), (BadValue, "command")),
        ]:
            self.assertEqual(refusal(replayed, 3, journal), expected, journal)
        self.assertEqual(refusal(replayed, 3, (MORE, ("know", 0, 3)))[0], "returned")

    def test_refused_lists_stay_as_they_were(self):
        journal, records = [("more",), ["know", 0, 1]], [[["more"], [[1], []]]]
        self.assertEqual(name_of_refusal(replayed, 2, journal), "journal")
        self.assertIs(are_right(1, records), False)
        self.assertIs(are_right(1, (records[0],)), False)
        self.assertEqual((journal, records), ([("more",), ["know", 0, 1]], [[["more"], [[1], []]]]))


if __name__ == "__main__":
    unittest.main()
