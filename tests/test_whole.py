"""Points 1 to 8, over all modules together."""

import copy
import importlib
import inspect
import unittest
from itertools import product

from cases import BAD, FOUR, ROW, THREE, TWO, WALKS, Same
from notebooks import KNOW, MORE, TRIANGLE, TURN, filled, told
from test_form import CLASSES, INTERFACE
from wrong import NO_COMMANDS, refusal
from ringbeats import errors
from ringbeats.cases import accepts_pair, pair_evidence
from ringbeats.circular import accepts_circle, circle_evidence, is_circular, least_places
from ringbeats.counting import count_ways, nth_way
from ringbeats.errors import BadValue, NotPossible, RingError, TextError, TooLarge
from ringbeats.known import count_completions
from ringbeats.notebook import Notebook
from ringbeats.numbered import count_circular, index_of_circular, next_circular, nth_circular
from ringbeats.reading import read_ring, read_tournament
from ringbeats.rings import beaten
from ringbeats.signed import told_order
from ringbeats.switching import switched
from ringbeats.tournaments import obstruction
from ringbeats.transitive import reversed_results
from ringbeats.writing import ring_text, tournament_text

CLASSES_OF_ERRORS = (BadValue, TooLarge, NotPossible, TextError)
RING = ((0, 1), (1, 2), (2, 0), (3, 0), (3, 1))
SIGNED = ((0, True), (2, False), (1, True))

# For each function of the interface, arguments of calls that are not refused.
RIGHT = {
    "rings": {
        "is_ring": [(5,), (4,), (None,)],
        "are_places": [(5, (0, 2, 4)), (5, (0, 0)), (5, None)],
        "beaten": [(5, (0, 2, 4)), (1, (0,))],
        "turned": [(5, (0, 2, 4), 3)],
        "mirrored": [(5, (0, 2, 4))],
        "around": [(7, (3, 1, 5, 0))],
        "widened": [(5, (0, 2, 4), 1)],
        "scaled": [(3, (0, 2), 5)],
    },
    "tournaments": {
        "is_tournament": [(ROW,), (None,), (((1,), (0,)),)],
        "triangles": [(THREE,), (ROW,), (WALKS,)],
        "count_triangles": [(FOUR,)],
        "obstruction": [(FOUR,), (ROW,)],
        "accepts_obstruction": [(FOUR, (3, 0, 1, 2)), (FOUR, (3, 0, 2, 1)), (FOUR, [3, 0, 1, 2])],
        "twins": [(ROW,), (FOUR,)],
    },
    "transitive": {
        "has_order": [(ROW,), (THREE,)],
        "order_evidence": [(ROW,), (THREE,)],
        "accepts_order": [(ROW, ("order", (0, 1, 2))), (ROW, ["order", [0, 1, 2]])],
        "scores": [(FOUR,)],
        "reversed_results": [(FOUR,)],
        "restricted": [(FOUR, (0, 1, 3))],
        "renamed": [(THREE, (0, 2, 1))],
    },
    "signed": {
        "told_order": [(ROW,), (BAD,)],
        "stands_for": [(SIGNED,)],
        "turned_order": [(ROW, 1, False), (BAD, 0, True)],
        "least_ring": [(ROW,), (BAD,)],
        "accepts_order": [(THREE, SIGNED), (THREE, list(SIGNED))],
    },
    "circular": {
        "is_circular": [(ROW,), (BAD,)],
        "least_places": [(ROW,), (BAD,)],
        "circle_evidence": [(ROW,), (BAD,)],
        "accepts_circle": [(THREE, ("places", 5, (0, 2, 3))), (BAD, ["obstruction", [0, 1, 2, 3]])],
        "part": [(BAD, (1, 2, 3))],
    },
    "counting": {
        "count_ways": [(TWO, 5), (BAD, 31)],
        "count_beginning": [(THREE, 5, (0, 2)), (THREE, 5, ())],
        "nth_way": [(TWO, 5, 6)],
        "index_of_way": [(TWO, 5, (4, 0)), (TWO, 5, [4, 0])],
        "next_way": [(TWO, 3, (1, 2)), (TWO, 3, (2, 0))],
    },
    "switching": {
        "switched": [(ROW, (0,)), (ROW, ())],
        "straightening": [(ROW,), (BAD,)],
        "ways": [(THREE, ROW)],
        "renamings": [(THREE, THREE), (THREE, ROW)],
        "accepts_way": [(THREE, ROW, ((1, 0, 2), (0,))), (THREE, ROW, [[1, 0, 2], [0]])],
        "close": [(ROW,), (BAD,)],
    },
    "walks": {
        "is_walk": [(WALKS, (0, 1, 2, 0, 1)), (WALKS, [0, 1])],
        "shortest_walk": [(WALKS, 0, 3), (ROW, 2, 0)],
        "walk_evidence": [(WALKS, 0, 3), (ROW, 2, 0)],
        "accepts_shortest": [(ROW, 2, 0, ("none", (1, 2))), (ROW, 2, 0, ["none", [1, 2]])],
    },
    "cycles": {
        "first_cycle": [(WALKS, 3, 3), (ROW, 0, 3)],
        "first_row": [(WALKS,)],
        "count_rows": [(WALKS,)],
        "endless_evidence": [(WALKS,), (ROW,)],
        "accepts_endless": [(ROW, ("levels", (2, 1, 0))), (ROW, ["levels", [2, 1, 0]])],
    },
    "numbered": {
        "count_circular": [(4,), (8,)],
        "nth_circular": [(3, 2), (8, 645119)],
        "index_of_circular": [(THREE,), (BAD,)],
        "next_circular": [(ROW,), (((), (0,)),)],
        "with_one_more": [(TWO,), (ROW,)],
    },
    "known": {
        "count_completions": [(4, RING), (5, ())],
        "forced": [(4, RING), (4, RING + ((3, 2),))],
        "first_conflict": [(4, RING), (4, RING + ((3, 2),))],
        "best_question": [(4, RING), (3, ())],
    },
    "cases": {
        "pair_evidence": [(4, RING, 2, 3), (4, RING + ((3, 2),), 0, 1), (3, (), 0, 2)],
        "accepts_pair": [(2, (), 0, 1, ("open", ((1,), ()), ((), (0,)))), (2, (), 0, 1, ["none", []])],
    },
    "scanning": {
        "scan": [("5: 0 2 4",), ("",)],
    },
    "reading": {
        "next_tokens": [(".+", "tournament"), ("7: 3", "ring")],
        "read_tournament": [(".+- -.+ +-.",)],
        "read_ring": [("5: 0 2 4",)],
    },
    "writing": {
        "tournament_text": [(ROW,)],
        "ring_text": [(7, (3, 0))],
    },
    "journals": {
        "replayed": [(3, TRIANGLE), (3, ())],
        "are_right": [(2, ((("know", 1, 0), ((), (0,))),)), (2, [[["know", 1, 0], [[], [0]]]])],
    },
}

# Of these arguments every value is valid, or nothing is told of wrong ones.
UNCHECKED = [("rings", "is_ring", "value"), ("rings", "are_places", "ring"), ("tournaments", "is_tournament", "value")]
JUDGED = ("value", "records")
# None of these is what any of the checked arguments may be.
WRONG = [None, True, False, -1, 10**30, "\n", [], [0], [[]], {}, ((),) * 30]


def functions():
    """The functions of the interface with their files, names, parameters and right calls."""
    for file, named in INTERFACE.items():
        module = importlib.import_module(f"ringbeats.{file}")
        for name, parameters in named.items():
            yield file, name, getattr(module, name), parameters, RIGHT[file][name]


def right_calls():
    for _, _, function, _, calls in functions():
        for arguments in calls:
            yield function, arguments


def is_checked(file, name, parameter):
    return parameter not in JUDGED and (file, name, parameter) not in UNCHECKED


def shown(value):
    """The value, or what a returned notebook tells."""
    return told(value) if isinstance(value, Notebook) else value


def is_plain(value):
    """Whether the value is of the kinds of point 3."""
    if isinstance(value, Notebook):
        return True
    if type(value) in (tuple, list):
        return all(is_plain(item) for item in value)
    return value is None or type(value) in (int, str, bool)


class Interface(unittest.TestCase):
    def test_every_function_is_called_here(self):
        for file, named in INTERFACE.items():
            self.assertEqual(list(RIGHT[file]), list(named))
        self.assertEqual(set(RIGHT), set(INTERFACE))

    def test_every_module_of_the_document_is_there(self):
        self.assertEqual(set(INTERFACE) | set(CLASSES), {
            "errors", "rings", "tournaments", "transitive", "signed", "circular", "counting", "switching", "walks",
            "cycles", "numbered", "known", "cases", "scanning", "reading", "writing", "notebook", "journals",
        })

    def test_arguments_may_be_given_by_name(self):
        for _, _, function, parameters, calls in functions():
            for arguments in calls:
                self.assertEqual(shown(function(**dict(zip(parameters, arguments)))), shown(function(*arguments)))
        self.assertEqual(Notebook(players=2).act(command=KNOW), 1)


class Results(Same):
    """Points 2 and 3."""

    def test_equal_arguments_have_equal_results(self):
        calls = list(right_calls())
        first = [repr(shown(function(*arguments))) for function, arguments in calls]
        again = [repr(shown(function(*copy.deepcopy(arguments)))) for function, arguments in calls[::-1]]
        self.assertEqual(first, again[::-1])

    def test_no_argument_is_modified(self):
        for function, arguments in right_calls():
            before = copy.deepcopy(arguments)
            function(*arguments)
            self.assertSame(arguments, before)

    def test_refused_arguments_are_not_modified(self):
        for _, _, function, parameters, calls in functions():
            for arguments in calls:
                for at in range(len(parameters)):
                    lists = [list(item) if isinstance(item, tuple) else item for item in arguments]
                    wrong = [*arguments[:at], lists[at], *arguments[at + 1:]]
                    before = copy.deepcopy(wrong)
                    refusal(function, *wrong)
                    self.assertSame(wrong, before)

    def test_a_returned_list_that_is_changed_has_no_effect_on_later_calls(self):
        lists = 0
        for function, arguments in right_calls():
            first = function(*arguments)
            if isinstance(first, list):
                lists += 1
                kept = copy.deepcopy(first)
                first.append(None)
                first.reverse()
                first[0] = "changed"
                self.assertSame(function(*arguments), kept)
        self.assertGreaterEqual(lists, 10)

    def test_results_are_of_the_kinds_of_the_document(self):
        for function, arguments in right_calls():
            self.assertTrue(is_plain(function(*arguments)), function)

    def test_lists_are_returned_where_the_document_says_list_and_nowhere_else(self):
        named = {"triangles", "twins", "straightening", "ways", "renamings", "close", "with_one_more", "scan",
                 "next_tokens"}
        for function, arguments in right_calls():
            result = function(*arguments)
            self.assertEqual(isinstance(result, list), function.__name__ in named)
            if not isinstance(result, Notebook):
                self.assertEqual("[" in repr(result), function.__name__ in named)


class Refusals(unittest.TestCase):
    """Point 8."""

    def test_the_first_wrong_argument_is_told(self):
        for file, name, function, parameters, calls in functions():
            checked = [at for at in range(len(parameters)) if is_checked(file, name, parameters[at])]
            for arguments, wrong in product(calls[:1], WRONG):
                for at in checked:
                    for behind in WRONG:
                        new = list(arguments)
                        new[at] = wrong
                        new[at + 1:] = [behind] * (len(arguments) - at - 1)
                        told_error = refusal(function, *new)
                        if not self.may_stand(parameters[at], wrong):
                            self.assertEqual(told_error, (BadValue, parameters[at]), (name, new))

    def may_stand(self, parameter, value):
        """Whether the value is right in this place after all."""
        return parameter == "itself" and isinstance(value, bool)

    def test_a_wrong_argument_behind_right_ones(self):
        for file, name, function, parameters, calls in functions():
            for arguments, wrong in product(calls, WRONG):
                for at, parameter in enumerate(parameters):
                    if is_checked(file, name, parameter) and not self.may_stand(parameter, wrong):
                        new = (*arguments[:at], wrong, *arguments[at + 1:])
                        self.assertEqual(refusal(function, *new), (BadValue, parameter), (name, new))

    def test_all_errors_are_of_the_listed_classes(self):
        found = set()
        refused = [(function, (*arguments[:at], wrong, *arguments[at + 1:]))
                   for _, _, function, parameters, calls in functions() for arguments in calls for wrong in WRONG
                   for at in range(len(parameters)) if (function.__name__, parameters[at]) != ("are_places", "ring")]
        others = [(importlib.import_module("ringbeats.rings").widened, (31, (0,), 0)),
                  (importlib.import_module("ringbeats.switching").ways, (BAD, FOUR)), (next_circular, (BAD,)),
                  (read_ring, ("5: 5",)), (read_tournament, (".+ +.",))]
        for function, arguments in [*refused, *others]:
            try:
                function(*arguments)
            except RingError as error:
                self.assertIn(type(error), CLASSES_OF_ERRORS)
                self.assertIsInstance(error, ValueError)
                found.add(type(error))
        self.assertEqual(found, set(CLASSES_OF_ERRORS))

    def test_there_are_no_further_errors(self):
        own = [value for value in vars(errors).values() if inspect.isclass(value)]
        self.assertEqual(set(own), {RingError, *CLASSES_OF_ERRORS})
        for one, other in product(CLASSES_OF_ERRORS, repeat=2):
            self.assertEqual(issubclass(one, other), one is other)

    def test_judges_refuse_no_value(self):
        for file, name, function, parameters, calls in functions():
            if parameters[-1] in JUDGED:
                for arguments, value in product(calls, [*WRONG, *NO_COMMANDS, "value", 1, (None,), ((), [])]):
                    result = function(*arguments[:-1], value)
                    self.assertIn(type(result), (bool, int, type(None)), (name, value))

    def test_errors_change_nothing(self):
        notebook = filled(3, (KNOW, TURN))
        before = told(notebook)
        for command in [*NO_COMMANDS, KNOW, ("forget", 1, 2), *WRONG]:
            self.assertNotEqual(refusal(notebook.act, command)[0], "returned")
        self.assertEqual(told(notebook), before)


class Together(Same):
    """Point 1: what one module tells is what the others tell."""

    def test_every_tournament_of_four_players(self):
        for index in range(count_circular(4)):
            tournament = nth_circular(4, index)
            self.assertSame(index_of_circular(tournament), index)
            ring, places = least_places(tournament)
            self.assertSame(beaten(ring, places), tournament)
            self.assertSame(read_ring(ring_text(ring, places)), (ring, places))
            self.assertSame(read_tournament(tournament_text(tournament)), tournament)
            self.assertSame(nth_way(tournament, ring, 0), places)
            self.assertSame(count_ways(tournament, ring), ring)
            self.assertSame(is_circular(switched(tournament, (0, 2))), True)
            self.assertSame(is_circular(reversed_results(tournament)), True)
            results = tuple((one, other) for one in range(4) for other in tournament[one])
            self.assertSame(count_completions(4, results), 1)
            self.assertSame(pair_evidence(4, results, 0, 1), ("forced", tournament, None))

    def test_one_word_is_accepted(self):
        for tournament in (ROW, THREE, FOUR, BAD, WALKS):
            evidence = circle_evidence(tournament)
            self.assertSame(accepts_circle(tournament, evidence), True)
            self.assertEqual(evidence[0] == "places", told_order(tournament) is not None)
            self.assertEqual(evidence[0] == "obstruction", obstruction(tournament) is not None)
            self.assertEqual(evidence[0] == "obstruction", index_of_circular(tournament) is None)

    def test_a_tournament_that_is_not_circular(self):
        results = tuple((one, other) for one in range(4) for other in BAD[one])
        self.assertSame(count_completions(4, results), 0)
        self.assertSame(accepts_pair(4, results, 0, 1, ("none", ("no", obstruction(BAD)))), True)
        self.assertSame(read_tournament(tournament_text(BAD)), BAD)
        self.assertEqual(refusal(next_circular, BAD), (NotPossible, "circular"))

    def test_a_notebook_with_everything(self):
        notebook = filled(3, (*TRIANGLE, TURN, MORE))
        known = tuple(sorted(notebook.results()))
        self.assertSame(notebook.count(), count_completions(4, known))
        for _, completion in notebook.records():
            self.assertSame(is_circular(completion), True)


if __name__ == "__main__":
    unittest.main()
