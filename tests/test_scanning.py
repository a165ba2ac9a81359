"""The tokens of texts: points 104, 105 and 113, and rootfirst/scanning.py."""

import itertools
import random
import re
import unittest

from rootfirst.errors import TextError, TreeError
from rootfirst.scanning import scan
from tests.helpers import WRONG_TEXTS, TextCase

NO_TOKEN, LONG, DEEP = "no token begins here", "a number has at most 6 digits", "nested too deep"
KINDS = [("letter", "[abcd]"), ("number", "[0-9]+"), ("sign", "[(),:=;|]")]


def plain_tokens(text):
    """Points 104 and 105: the list of tokens, or the column and the words of the first problem."""
    found, column = [], 1
    while column <= len(text):
        rest = text[column - 1:]
        hits = [(kind, re.match(form, rest)) for kind, form in KINDS]
        told = [(kind, hit.group()) for kind, hit in hits if hit]
        if rest[0] != " " and not told:
            return column, NO_TOKEN
        if told:
            kind, characters = told[0]
            if kind == "number" and len(characters) > 6:
                return column, LONG
            if characters == "(" and open_ahead([token[1] for token in found]) >= 14:
                return column, DEEP
            found.append((kind, characters, column))
        column += len(told[0][1]) if told else 1
    return found + [("end", "", column)]


def open_ahead(characters):
    """How many of the parentheses are open, each closed by the next ) behind it that closes no other."""
    left = [one for one in characters if one in "()"]
    while ("(", ")") in zip(left, left[1:]):
        at = list(zip(left, left[1:])).index(("(", ")"))
        left = left[:at] + left[at + 2:]
    return left.count("(")


class Tokens(TextCase):
    def test_each_kind(self):
        self.shows(scan("c(a, b(a))"), repr([
            ("letter", "c", 1), ("sign", "(", 2), ("letter", "a", 3), ("sign", ",", 4), ("letter", "b", 6),
            ("sign", "(", 7), ("letter", "a", 8), ("sign", ")", 9), ("sign", ")", 10), ("end", "", 11)]))
        self.shows(scan("  12:abcd007 = 0;|  "), repr([
            ("number", "12", 3), ("sign", ":", 5), ("letter", "a", 6), ("letter", "b", 7), ("letter", "c", 8),
            ("letter", "d", 9), ("number", "007", 10), ("sign", "=", 14), ("number", "0", 16), ("sign", ";", 17),
            ("sign", "|", 18), ("end", "", 21)]))
        self.shows(scan("123456 0 9999999"[:15]), repr([
            ("number", "123456", 1), ("number", "0", 8), ("number", "999999", 10), ("end", "", 16)]))

    def test_texts_of_0_1000_and_1001_characters(self):
        self.shows(scan(""), "[('end', '', 1)]")
        self.shows(scan(" "), "[('end', '', 2)]")
        self.shows(scan(" " * 1000), "[('end', '', 1001)]")
        self.shows(scan(" " * 999 + "a"), "[('letter', 'a', 1000), ('end', '', 1001)]")
        self.assertEqual(len(scan("a" * 1000)), 1001)
        for text in (" " * 1001, "a" * 1001, " " * 5000, "?" * 1001):
            self.bad("text", scan, text)

    def test_newlines_and_other_blanks_than_spaces(self):
        """The line feed alone is a newline, the space alone a blank."""
        for text in ("\n", "a\n", "\na", "a\nb", "a\r\nb", "?\n"):
            self.bad("text", scan, text)
        for blank in ("\t", "\r", "\x0b", "\x0c", "\x85", "\xa0", "\u2003", "\u2028", "\x00", "\x1f"):
            self.wrong_text(2, NO_TOKEN, scan, "a" + blank + "b")
            self.wrong_text(1, NO_TOKEN, scan, blank)

    def test_what_begins_no_token(self):
        for sign in "eAzD_.-+?!'\"[]{}<>/\\#*&^~`@$%\u0661\xb2\u0966\uff11\uff41\xe4\U0001d7d8\u2160":
            self.wrong_text(1, NO_TOKEN, scan, sign)
            self.wrong_text(5, NO_TOKEN, scan, "a(12" + sign)
            self.wrong_text(4, NO_TOKEN, scan, " b " + sign + " ?")

    def test_numbers_of_6_and_7_digits(self):
        for digits in ("000000", "999999", "1", "123456"):
            self.shows(scan(" " + digits), repr([("number", digits, 2), ("end", "", 2 + len(digits))]))
        for digits in ("0000000", "9999999", "1234567", "0" * 900):
            self.wrong_text(3, LONG, scan, "a " + digits)
            self.wrong_text(3, LONG, scan, "a " + digits + " ?")
        self.shows([len(token[1]) for token in scan("123456 123456a123456")], "[6, 6, 1, 6, 0]")

    def test_fourteen_and_fifteen_open_parentheses(self):
        self.assertEqual(len(scan("(" * 14)), 15)
        self.wrong_text(15, DEEP, scan, "(" * 15)
        self.wrong_text(29, DEEP, scan, "( " * 16)
        self.assertEqual(len(scan("a(" * 14 + "a")), 30)
        self.wrong_text(30, DEEP, scan, "a(" * 15)
        self.assertEqual(len(scan("(" * 14 + ")(" * 20)), 55)
        self.wrong_text(17, DEEP, scan, "(" * 14 + ")((" + ")")
        self.assertEqual(len(scan("()" * 500)), 1001)
        self.assertEqual(len(scan("(" * 14 + ")" * 14 + "(" * 14)), 43)

    def test_closing_ones_where_nothing_is_open(self):
        self.assertEqual(len(scan(")" * 1000)), 1001)
        self.assertEqual(len(scan(")))" + "(" * 14)), 18)
        self.wrong_text(18, DEEP, scan, ")))" + "(" * 15)
        self.wrong_text(19, DEEP, scan, "())" + "(" * 14 + " (")

    def test_the_first_token_with_a_problem(self):
        problems = [("?", NO_TOKEN), ("1234567", LONG), ("(", DEEP)]
        for (one, words), (other, _) in itertools.permutations(problems, 2):
            self.wrong_text(15, words, scan, "(" * 14 + one + " " + other)
            self.wrong_text(18, words, scan, "(" * 14 + " a " + one + other)
        self.wrong_text(1, NO_TOKEN, scan, "?" + "(" * 15)
        self.wrong_text(15, DEEP, scan, "(" * 15 + "?")

    def test_against_a_plain_telling(self):
        chance = random.Random(921)
        kinds = {NO_TOKEN: 0, LONG: 0, DEEP: 0, "right": 0}
        for many in list(range(30)) * 60 + [200] * 60:
            signs = chance.choice(["abcd0123456789(),:=;|  ", "0123456789 ", "a((((()  1", "ab(,) 12?"])
            text = "".join(chance.choice(signs) for _ in range(many))
            wanted = plain_tokens(text)
            if isinstance(wanted, list):
                self.same(scan(text), wanted)
                kinds["right"] += 1
            else:
                self.wrong_text(*wanted, scan, text)
                kinds[wanted[1]] += 1
        self.assertGreater(min(kinds.values()), 20)

    def test_tokens_tell_the_whole_text(self):
        chance = random.Random(922)
        for _ in range(200):
            text = "".join(chance.choice("abcd01 (),:=;|") for _ in range(chance.randrange(40)))
            try:
                tokens = scan(text)
            except TextError:
                continue
            again = " " * len(text)
            for kind, characters, column in tokens:
                again = again[:column - 1] + characters + again[column - 1 + len(characters):]
            self.assertEqual(again, text)


class WrongArguments(TextCase):
    def test_texts_of_wrong_forms(self):
        """Point 113."""
        for text in WRONG_TEXTS:
            self.bad("text", scan, text)

    def test_equal_calls_return_equal_results(self):
        """Point 2: also after a returned list was changed."""
        for _ in range(2):
            told = scan("a(b)")
            self.assertIs(type(told), list)
            self.assertTrue(all(type(token) is tuple for token in told))
            self.assertEqual(len(told), 5)
            told.clear()

    def test_text_errors_are_tree_errors(self):
        with self.assertRaises(TreeError) as caught:
            scan("?")
        self.assertIsInstance(caught.exception, ValueError)
        self.shows((caught.exception.column, caught.exception.words), "(1, 'no token begins here')")


if __name__ == "__main__":
    unittest.main()
