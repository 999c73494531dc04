"""Points 109 to 119, with 2, 3 and 8: what can come in texts, and reading them."""

import unittest
from itertools import permutations, product

from cases import EIGHT_IN_A_ROW, ONE, ROW, THREE, Same, great_cases, small_cases
from plain_texts import (
    Problem, plain_next, plain_ring, plain_tournament, written_ring, written_tournament,
)
from wrong import NO_KINDS, NO_TEXTS, name_of_refusal, refusal
from ringbeats.errors import TextError
from ringbeats.reading import next_tokens, read_ring, read_tournament
from ringbeats.writing import ring_text, tournament_text

KINDS = ("tournament", "ring")
PIECES = {"r": ".", "n": "1", "s": ":"}
RING_WORDS = "a ring is an odd number from 1 to 31"


def told_by_words(plain, *arguments):
    """What the document says of the text: what is returned, or the error."""
    try:
        return ("returned", plain(*arguments))
    except Problem as problem:
        return (TextError, *problem.args)


def mutations(text):
    """The text with each character changed, doubled or left out, and with others put in and behind it."""
    for at in range(len(text) + 1):
        for character in (" ", ".", "+", "-", "0", "1", "3", "9", ":", "a", "  "):
            yield text[:at] + character + text[at:]
            yield text[:at] + character + text[at + 1:]
        yield text[:at] + text[at + 1:]
        yield text[:at] + text[at:at + 1] + text[at:]
        yield text[:at]


class Texts(Same):
    def check_tournament(self, text):
        self.assertSame(refusal(read_tournament, text), told_by_words(plain_tournament, text))

    def check_ring(self, text):
        self.assertSame(refusal(read_ring, text), told_by_words(plain_ring, text))

    def assertProblem(self, call, text, column, words):
        self.assertSame(refusal(call, text), (TextError, column, words))


class NextTokens(Texts):
    def test_all_rows_of_tokens(self):
        for many in range(6):
            for letters in product("rns", repeat=many):
                text = " ".join(PIECES[letter] for letter in letters)
                for kind in KINDS:
                    self.assertSame(refusal(next_tokens, text, kind), told_by_words(plain_next, text, kind))

    def test_what_can_come_at_each_place(self):
        self.assertSame(next_tokens("", "tournament"), ["a row"])
        self.assertSame(next_tokens(".", "tournament"), ["a row", "the end"])
        self.assertSame(next_tokens(". +", "tournament"), ["a row", "the end"])
        self.assertSame(next_tokens(". " * 150, "tournament"), ["a row", "the end"])
        self.assertSame(next_tokens("", "ring"), ["a number"])
        self.assertSame(next_tokens("5", "ring"), ['":"'])
        self.assertSame(next_tokens("5:", "ring"), ["a number"])
        self.assertSame(next_tokens("5: 0", "ring"), ["a number", "the end"])
        self.assertSame(next_tokens("5: 0 0", "ring"), ["a number", "the end"])
        self.assertSame(next_tokens("5:" + " 0" * 149, "ring"), ["a number", "the end"])

    def test_the_grammar_alone_is_looked_at(self):
        for text in ("+++ .", ". . .", "........", ".+ +."):
            self.assertSame(next_tokens(text, "tournament"), ["a row", "the end"])
        for text in ("0: 0", "999999: 999999", "4: 0 0 0 0 0 0 0 0 0 0 0", "5: 7 7"):
            self.assertSame(next_tokens(text, "ring"), ["a number", "the end"])

    def test_what_cannot_come(self):
        for text, column, words in [
            ("1", 1, "expected a row"), (":", 1, "expected a row"), ("  7 .", 3, "expected a row"),
            (". 1", 3, "expected a row or the end"), (".:", 2, "expected a row or the end"),
            (". . .1", 6, "expected a row or the end"),
        ]:
            self.assertProblem(lambda told: next_tokens(told, "tournament"), text, column, words)
        for text, column, words in [
            (".", 1, "expected a number"), (":", 1, "expected a number"), ("5 5", 3, 'expected ":"'),
            ("5.", 2, 'expected ":"'), ("5::", 3, "expected a number"), ("5:.", 3, "expected a number"),
            ("5: 0:", 5, "expected a number or the end"), ("5: 0 2 .", 8, "expected a number or the end"),
        ]:
            self.assertProblem(lambda told: next_tokens(told, "ring"), text, column, words)

    def test_problems_of_tokens_come_before_all_others(self):
        for text, column, words in [("1 a", 3, "no token begins here"), (": .........", 3, "a row has at most 8 marks"),
                                    ("5 5 1234567", 5, "a number has at most 6 digits")]:
            for kind in KINDS:
                self.assertProblem(lambda told: next_tokens(told, kind), text, column, words)

    def test_spaces_change_nothing(self):
        for text in ("", " ", "   "):
            self.assertSame(next_tokens(text, "ring"), ["a number"])
        self.assertSame(next_tokens("  7  ", "ring"), ['":"'])
        self.assertSame(next_tokens("7:3", "ring"), next_tokens(" 7 : 3 ", "ring"))

    def test_what_can_come_goes_on_the_text(self):
        pieces = {"a row": "+", "a number": "2", '":"': ":"}
        for kind, text in [("tournament", ""), ("tournament", ". +"), ("ring", ""), ("ring", "7"), ("ring", "7: 1 1")]:
            allowed = next_tokens(text, kind)
            for word, piece in pieces.items():
                self.assertEqual(refusal(next_tokens, f"{text} {piece}", kind)[0] == "returned", word in allowed)

    def test_examples(self):
        self.assertSame(next_tokens(".+", "tournament"), ["a row", "the end"])
        self.assertSame(next_tokens("7", "ring"), ['":"'])
        self.assertSame(next_tokens("7: 3", "ring"), ["a number", "the end"])


class ReadTournament(Texts):
    def test_every_tournament_of_up_to_five_players_and_some_of_up_to_eight(self):
        for tournament in [*small_cases(5), *great_cases()]:
            self.assertSame(read_tournament(written_tournament(tournament)), tournament)
            self.assertSame(read_tournament(tournament_text(tournament)), tournament)

    def test_all_texts_of_a_few_short_rows(self):
        rows = ["".join(marks) for many in (1, 2) for marks in product(".+-", repeat=many)]
        for many in (1, 2, 3):
            for told in product(rows, repeat=many):
                self.check_tournament(" ".join(told))

    def test_all_texts_of_rows_of_three(self):
        rows = ["".join(marks) for marks in product(".+-", repeat=3)]
        for first, second in product(rows, rows):
            self.check_tournament(f"{first} {second}")
        for told in product([".++", ".+-", ".-+"], ["+.+", "+.-", "-.+", "-.-", ".+-"], rows):
            self.check_tournament(" ".join(told))

    def test_texts_changed_at_each_place(self):
        for tournament in (ONE, ((), (0,)), ROW, THREE, ((1, 2, 3), (2,), (3,), (1,))):
            for text in mutations(written_tournament(tournament)):
                self.check_tournament(text)
        for tournament in (EIGHT_IN_A_ROW, *list(great_cases())[::5]):
            for text in list(mutations(written_tournament(tournament)))[::7]:
                self.check_tournament(text)

    def test_each_problem_at_its_column(self):
        for text, column, words in [
            (". .", 3, "there is no such player"), (".+ -. -.", 7, "there is no such player"),
            (".+- -.+ +-. ..........", 13, "a row has at most 8 marks"),
            (".+- -.+ +-. .", 13, "there is no such player"), (".+ -. - -", 7, "there is no such player"),
            (".+ -", 4, "a row has another length"), (".+ -.+", 4, "a row has another length"),
            (".+- -. +-.", 5, "a row has another length"), ("  .+-  -.+   +-", 14, "a row has another length"),
            ("+", 1, "a row has . at its player"), ("-.", 1, "a row has . at its player"),
            ("..", 1, "a row has . at its player"), (".+ .-", 4, "a row has . at its player"),
            (".+ ..", 4, "a row has . at its player"), (".+- -.. +-.", 5, "a row has . at its player"),
            (".+- -.+ +--", 9, "a row has . at its player"), ("++", 1, "a row has . at its player"),
            (".+ +.", 4, "two rows disagree"), (".- -.", 4, "two rows disagree"),
            (".+- -.+ --.", 9, "two rows disagree"), (".+- -.+ ++.", 9, "two rows disagree"),
            (".+- -.+ -+.", 9, "two rows disagree"), (".++ -.+ -+.", 9, "two rows disagree"),
            (".+", 3, "a row is missing"), (".+- -.+", 8, "a row is missing"), (".+- ", 5, "a row is missing"),
            (".+-  -.+  ", 11, "a row is missing"), (".+++++++", 9, "a row is missing"),
        ]:
            self.assertProblem(read_tournament, text, column, words)
            self.check_tournament(text)

    def test_of_several_problems_the_first_one_from_left_to_right(self):
        for text, column, words in [
            ("+. -", 1, "a row has . at its player"), (".+ + +", 4, "a row has another length"),
            (".+ +. -.", 4, "two rows disagree"), (".+ .- -.", 4, "a row has . at its player"),
            (". + a", 5, "no token begins here"), (".+ +. 1", 7, "expected a row or the end"),
            (".+ +. .........", 7, "a row has at most 8 marks"), (".+- -.+ +-. : a", 15, "no token begins here"),
            (".+- +.", 5, "a row has another length"), (".+- .+-", 5, "a row has . at its player"),
            (". ++ 5", 6, "expected a row or the end"), (".+- -..", 5, "a row has . at its player"),
        ]:
            self.assertProblem(read_tournament, text, column, words)
            self.check_tournament(text)

    def test_of_several_at_one_token_the_one_that_stands_first(self):
        for text, column, words in [
            # Behind the last player; with another length; without its point; both at once.
            (". ++", 3, "there is no such player"), (".+ -. +++", 7, "there is no such player"),
            (".+ .-+", 4, "a row has another length"), (".+ +", 4, "a row has another length"),
            (".+ ++", 4, "a row has . at its player"), (".+- +.. +-.", 5, "a row has . at its player"),
        ]:
            self.assertProblem(read_tournament, text, column, words)
            self.check_tournament(text)

    def test_the_grammar(self):
        for text, column, words in [
            ("", 1, "expected a row"), ("   ", 4, "expected a row"), ("5", 1, "expected a row"),
            (":", 1, "expected a row"), (". 5", 3, "expected a row or the end"), (".5", 2, "expected a row or the end"),
            (".+- -.+: +-.", 8, "expected a row or the end"), ("5: 0 2 4", 1, "expected a row"),
        ]:
            self.assertProblem(read_tournament, text, column, words)
            self.check_tournament(text)

    def test_spaces_change_nothing_but_columns(self):
        for text in ("  .+-   -.+ +-.  ", ".+- -.+     +-.", " " * 289 + ".+- -.+ +-."):
            self.assertSame(read_tournament(text), THREE)
        self.assertProblem(read_tournament, " .+   +. ", 7, "two rows disagree")
        self.assertProblem(read_tournament, ".+- -. + +-.", 5, "a row has another length")

    def test_examples(self):
        self.assertSame(read_tournament(".+- -.+ +-."), THREE)
        self.assertSame(read_tournament("."), ONE)
        self.assertProblem(read_tournament, ".+ +.", 4, "two rows disagree")


class ReadRing(Texts):
    def test_all_places_on_small_rings(self):
        for ring in (1, 3, 5):
            for many in range(1, ring + 1):
                for places in permutations(range(ring), many):
                    self.assertSame(read_ring(written_ring(ring, places)), (ring, places))
                    self.assertSame(read_ring(ring_text(ring, places)), (ring, places))

    def test_every_ring_and_eight_players(self):
        for ring in range(1, 32, 2):
            places = tuple(place * 2 % ring for place in range(min(ring, 8)))
            self.assertSame(read_ring(ring_text(ring, places)), (ring, places))
            self.assertSame(read_ring(f"{ring}: {ring - 1}"), (ring, (ring - 1,)))

    def test_all_numbers(self):
        for ring in [*range(40), 99, 100, 101, 310, 999999]:
            for place in [*range(0, 36, 5), 30, 31, 32, 999999]:
                self.check_ring(f"{ring}: {place}")
                self.check_ring(f"{ring}: 0 {place} 1")

    def test_all_texts_of_a_few_numbers(self):
        for ring, *places in product(range(6), range(6), range(6), range(6)):
            self.check_ring(f"{ring}: {' '.join(map(str, places))}")

    def test_texts_changed_at_each_place(self):
        for text in ("5: 0 2 4", "1: 0", "31: 30 0 15", "7:3", "9: 0 1 2 3 4 5 6 7"):
            for changed in mutations(text):
                self.check_ring(changed)

    def test_each_problem_at_its_column(self):
        for text, column, words in [
            ("0: 0", 1, RING_WORDS), ("2: 0", 1, RING_WORDS), ("30: 0", 1, RING_WORDS), ("32: 0", 1, RING_WORDS),
            ("33: 0", 1, RING_WORDS), ("  4: 0", 3, RING_WORDS), ("999999: 0", 1, RING_WORDS),
            ("9: 0 1 2 3 4 5 6 7 8", 20, "there are at most 8 players"),
            ("5: 5", 4, "there is no such place"), ("5: 0 6", 6, "there is no such place"),
            ("1: 1", 4, "there is no such place"), ("31: 31", 5, "there is no such place"),
            ("5: 999999", 4, "there is no such place"), ("5:  4   5", 9, "there is no such place"),
            ("5: 0 0", 6, "this place stands already"), ("5: 4 2 3 4", 10, "this place stands already"),
            ("5: 0 2 4 02", 10, "this place stands already"),
        ]:
            self.assertProblem(read_ring, text, column, words)
            self.check_ring(text)

    def test_of_several_problems_the_first_one_from_left_to_right(self):
        for text, column, words in [
            ("4: 4 4", 1, RING_WORDS), ("5: 0 0 5", 6, "this place stands already"),
            ("5: 5 5", 4, "there is no such place"), ("5: 1 7 1", 6, "there is no such place"),
            ("9: 0 1 2 3 4 5 6 6 9", 18, "this place stands already"),
            ("9: 9 0 1 2 3 4 5 6 7", 4, "there is no such place"),
            ("4 4", 3, 'expected ":"'), ("4: 0 :", 6, "expected a number or the end"),
            ("4: 9 a", 6, "no token begins here"), ("5 5 1234567", 5, "a number has at most 6 digits"),
            ("9: 0 1 2 3 4 5 6 7 8 8 9", 20, "there are at most 8 players"),
        ]:
            self.assertProblem(read_ring, text, column, words)
            self.check_ring(text)

    def test_of_several_at_one_token_the_one_that_stands_first(self):
        for ninth in ("9", "99", "0", "7", "8", "999999"):
            self.assertProblem(read_ring, f"9: 0 1 2 3 4 5 6 7 {ninth}", 20, "there are at most 8 players")
        self.assertProblem(read_ring, "5: 7 7", 4, "there is no such place")
        self.assertProblem(read_ring, "9: 0 1 2 3 4 5 6 9", 18, "there is no such place")

    def test_the_grammar(self):
        for text, column, words in [
            ("", 1, "expected a number"), (" ", 2, "expected a number"), (":", 1, "expected a number"),
            (".", 1, "expected a number"), ("5", 2, 'expected ":"'), ("5 ", 3, 'expected ":"'),
            ("5 0", 3, 'expected ":"'), ("5.", 2, 'expected ":"'), ("5:", 3, "expected a number"),
            ("5:  ", 5, "expected a number"), ("5::0", 3, "expected a number"), ("5: .", 4, "expected a number"),
            ("5: 0:", 5, "expected a number or the end"), ("5: 0 .", 6, "expected a number or the end"),
            (".+- -.+ +-.", 1, "expected a number"), ("5: 0 2: 4", 7, "expected a number or the end"),
        ]:
            self.assertProblem(read_ring, text, column, words)
            self.check_ring(text)

    def test_needless_zeros_and_spaces(self):
        for text in ("5:0 2 4", "005: 000 02 0004", " 5 : 0  2   4 ", "000005:000000 000002 000004", "5 :0 2 4"):
            self.assertSame(read_ring(text), (5, (0, 2, 4)))
        self.assertProblem(read_ring, "0000005: 0", 1, "a number has at most 6 digits")
        self.assertSame(read_ring(" " * 292 + "5: 0 2 4"), (5, (0, 2, 4)))
        # Digits without a space between them are one number.
        self.assertProblem(read_ring, "5: 02 24", 7, "there is no such place")

    def test_examples(self):
        self.assertSame(read_ring("5: 0 2 4"), (5, (0, 2, 4)))
        self.assertSame(read_ring("7: 3 0"), (7, (3, 0)))


class Refusals(unittest.TestCase):
    """Point 118, with point 8."""

    def test_what_is_no_text_alone_and_with_anything_behind_it(self):
        for text in NO_TEXTS:
            for call in (read_tournament, read_ring):
                self.assertEqual(name_of_refusal(call, text), "text", repr(text)[:40])
            for kind in [*KINDS, *NO_KINDS]:
                self.assertEqual(name_of_refusal(next_tokens, text, kind), "text", repr(text)[:40])

    def test_what_is_no_kind(self):
        for kind in NO_KINDS:
            # The arguments are checked before the text is looked at.
            for text in ("", ".", "5", "5: 0", "a", ".........", ": :", "a" * 300):
                self.assertEqual(name_of_refusal(next_tokens, text, kind), "kind", (text, kind))

    def test_a_problem_is_a_text_error_with_an_integer_and_a_string(self):
        for call in (read_tournament, read_ring):
            for text in ("", "a", "5: 5", ".+ +.", ".........", "1234567"):
                kind, column, words = refusal(call, text)
                self.assertIs(kind, TextError)
                self.assertIs(type(column), int)
                self.assertIs(type(words), str)


class NothingIsKept(unittest.TestCase):
    """Point 2."""

    def test_a_returned_list_is_not_used_again(self):
        for text, kind in [("", "tournament"), (".", "tournament"), ("", "ring"), ("7", "ring"), ("7: 3", "ring")]:
            first = next_tokens(text, kind)
            kept = list(first)
            first.append(None)
            first[0] = "changed"
            self.assertEqual(next_tokens(text, kind), kept)
            self.assertIsNot(next_tokens(text, kind), next_tokens(text, kind))
            self.assertEqual(refusal(read_ring, "5")[2], 'expected ":"')


if __name__ == "__main__":
    unittest.main()
