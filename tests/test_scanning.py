"""Points 109, 110 and 118, with 2, 3 and 8: the tokens of texts."""

import unittest
from itertools import product

from cases import Same
from plain_texts import Problem, plain_scan
from wrong import NO_TEXTS, name_of_refusal, refusal
from ringbeats.errors import TextError
from ringbeats.scanning import scan

PIECES = [" ", "  ", ".", "+-", "-.+", "........", ".........", "0", "00", "123456", "1234567", ":", "::", "a", "\t"]
NO_TOKENS = ["a", "R", "_", ",", ";", "*", "/", "(", '"', "'", "\\", "\t", "\r", "\v", "\f", "\0", "\x1c", "\x85",
             "\xa0", "\u2028", "\u2029", "\u3000", "\u0663", "\xb2", "\uff11", "\u2212", "\uff0b", "\uff1a", "\u2024",
             "\U0001d7ce", "e", "%", "{", "|", "~", "!"]


def told_by_words(text):
    """What point 110 says of the text: the tokens, or the error."""
    try:
        return ("returned", plain_scan(text))
    except Problem as problem:
        return (TextError, *problem.args)


class Scan(Same):
    def check(self, text):
        self.assertSame(refusal(scan, text), told_by_words(text))

    def assertProblem(self, text, column, words):
        self.assertSame(refusal(scan, text), (TextError, column, words))
        self.check(text)

    def test_all_short_texts(self):
        for many in range(5):
            for characters in product(" .+0:a", repeat=many):
                self.check("".join(characters))

    def test_pieces_one_behind_another(self):
        for many in (1, 2, 3):
            for pieces in product(PIECES, repeat=many):
                self.check("".join(pieces))
                self.check(" ".join(pieces))

    def test_rows_as_long_as_possible(self):
        self.assertSame(scan(".+-"), [("row", ".+-", 1), ("end", "", 4)])
        self.assertSame(scan(".+- -.+"), [("row", ".+-", 1), ("row", "-.+", 5), ("end", "", 8)])
        self.assertSame(scan("++--..+-"), [("row", "++--..+-", 1), ("end", "", 9)])
        self.assertSame(scan("..5..:.."), [("row", "..", 1), ("number", "5", 3), ("row", "..", 4), ("sign", ":", 6),
                                           ("row", "..", 7), ("end", "", 9)])

    def test_rows_of_8_and_9_marks(self):
        self.assertSame(scan("........"), [("row", "........", 1), ("end", "", 9)])
        self.assertProblem(".........", 1, "a row has at most 8 marks")
        self.assertProblem("........+", 1, "a row has at most 8 marks")
        self.assertProblem("  ........ +++++++++", 12, "a row has at most 8 marks")
        self.assertProblem("+" * 300, 1, "a row has at most 8 marks")
        self.assertSame(scan("........ ."), [("row", "........", 1), ("row", ".", 10), ("end", "", 11)])

    def test_numbers_of_6_and_7_digits(self):
        self.assertSame(scan("123456"), [("number", "123456", 1), ("end", "", 7)])
        self.assertSame(scan("000000"), [("number", "000000", 1), ("end", "", 7)])
        self.assertProblem("1234567", 1, "a number has at most 6 digits")
        self.assertProblem("0000001", 1, "a number has at most 6 digits")
        self.assertProblem("5: 0 0000000", 6, "a number has at most 6 digits")
        self.assertProblem("9" * 300, 1, "a number has at most 6 digits")

    def test_numbers_as_they_stand(self):
        self.assertSame(scan("007: 00 1"), [("number", "007", 1), ("sign", ":", 4), ("number", "00", 6),
                                            ("number", "1", 9), ("end", "", 10)])
        for digit in "0123456789":
            self.assertSame(scan(digit), [("number", digit, 1), ("end", "", 2)])

    def test_signs(self):
        self.assertSame(scan(":"), [("sign", ":", 1), ("end", "", 2)])
        self.assertSame(scan("::"), [("sign", ":", 1), ("sign", ":", 2), ("end", "", 3)])
        self.assertSame(scan("5:0"), [("number", "5", 1), ("sign", ":", 2), ("number", "0", 3), ("end", "", 4)])

    def test_the_empty_text_and_blanks_alone(self):
        self.assertSame(scan(""), [("end", "", 1)])
        for many in (1, 2, 299, 300):
            self.assertSame(scan(" " * many), [("end", "", many + 1)])

    def test_the_end_stands_at_the_end_of_the_text(self):
        self.assertSame(scan(". "), [("row", ".", 1), ("end", "", 3)])
        self.assertSame(scan("  .  "), [("row", ".", 3), ("end", "", 6)])

    def test_texts_of_300_characters(self):
        self.assertSame(len(scan(". " * 150)), 151)
        self.assertSame(scan(". " * 150)[-2:], [("row", ".", 299), ("end", "", 301)])
        self.assertSame(scan(" " * 299 + ":"), [("sign", ":", 300), ("end", "", 301)])
        self.assertProblem(" " * 299 + "a", 300, "no token begins here")
        self.assertSame(len(scan(":" * 300)), 301)

    def test_what_begins_no_token(self):
        for character in NO_TOKENS:
            self.assertProblem(character, 1, "no token begins here")
            self.assertProblem(f" {character}", 2, "no token begins here")
            self.assertProblem(f".+{character}-", 3, "no token begins here")
            self.assertProblem(f"12{character}3", 3, "no token begins here")
            self.assertProblem(f"5: 0 {character}", 6, "no token begins here")

    def test_every_character(self):
        for number in [*range(0x3100), *range(0xff00, 0xff20), 0x1d7ce, 0x1f600, 0x10ffff]:
            character = chr(number)
            if character not in "\n .+-:0123456789":
                self.assertSame(refusal(scan, character), (TextError, 1, "no token begins here"))

    def test_the_first_one_of_several_problems(self):
        self.assertProblem("a .........", 1, "no token begins here")
        self.assertProblem("......... a", 1, "a row has at most 8 marks")
        self.assertProblem("1234567 a .........", 1, "a number has at most 6 digits")
        self.assertProblem(".........a", 1, "a row has at most 8 marks")
        self.assertProblem("1234567.........", 1, "a number has at most 6 digits")
        self.assertProblem(". ab", 3, "no token begins here")
        self.assertProblem(".........1234567", 1, "a row has at most 8 marks")
        self.assertProblem("5 5 a 1234567", 5, "no token begins here")

    def test_spaces_change_columns_alone(self):
        for pieces in product([".+", "7", ":"], repeat=3):
            tight = scan(" ".join(pieces))
            for gap in ("  ", "    "):
                wide = scan(gap + gap.join(pieces) + gap)
                self.assertEqual([token[:2] for token in wide], [token[:2] for token in tight])
                columns = [len(gap)]
                for piece in pieces:
                    columns.append(columns[-1] + len(piece) + len(gap))
                self.assertEqual([token[2] for token in wide], [column + 1 for column in columns])

    def test_every_text_is_in_its_tokens(self):
        for text in ("5: 0 2 4", ".+- -.+ +-.", " 7:3", "::1.", "31:  30 0  "):
            for _, characters, column in scan(text):
                self.assertEqual(text[column - 1:column - 1 + len(characters)], characters)


class Refusals(unittest.TestCase):
    """Point 118, with point 109."""

    def test_what_is_no_text(self):
        for text in NO_TEXTS:
            self.assertEqual(name_of_refusal(scan, text), "text", repr(text)[:40])

    def test_a_newline_is_the_line_feed_alone(self):
        for at in (0, 1, 2, 3):
            text = ".+- "[:at] + "\n" + ".+- "[at:]
            self.assertEqual(name_of_refusal(scan, text), "text")
        for character in "\r\v\f\x1c\x85\u2028\u2029":
            self.assertEqual(refusal(scan, "." + character), (TextError, 2, "no token begins here"))

    def test_300_and_301_characters(self):
        for character in " .a1:":
            self.assertEqual(name_of_refusal(scan, character * 301), "text")
            self.assertNotEqual(refusal(scan, character * 300)[1], "text")
        self.assertEqual(refusal(scan, " " * 300), ("returned", [("end", "", 301)]))
        self.assertEqual(refusal(scan, "a" * 300), (TextError, 1, "no token begins here"))


class NothingIsKept(unittest.TestCase):
    """Point 2."""

    def test_a_returned_list_is_not_used_again(self):
        for text in ("", ".", ".+- -.+ +-.", "5: 0 2 4", ":::"):
            first = scan(text)
            kept = list(first)
            first.append(None)
            first[0] = None
            first.reverse()
            self.assertEqual(scan(text), kept)
            self.assertIsNot(scan(text), scan(text))


if __name__ == "__main__":
    unittest.main()
