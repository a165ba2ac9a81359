"""Trees and automata that are read from texts: points 104 to 114, and rootfirst/reading.py."""

import itertools
import random
import unittest

from rootfirst.errors import TextError
from rootfirst.reading import next_tokens, read_automaton, read_tree
from rootfirst.writing import automaton_text, tree_text
from tests import helpers
from tests.helpers import (
    DEEP, DEEP_LIST, MANY_ARITIES, WRONG_ARITIES, WRONG_TEXTS, TextCase, all_trees, many_automata, nested_tree,
    perfect_tree, symbols,
)

MANY, NO_SYMBOL = "there are at most 15 nodes", "there is no such symbol"
OTHER, COUNT, NO_STATE = "this symbol has another arity", "there are 1 to 4 states", "there is no such state"
TWICE, SYMBOL, STEP = "this step stands already", "a symbol is missing", "a step is missing"
TWICE_GOOD = "this state stands already"

# Point 106. A part that is not a key is a token.
GRAMMAR = {
    "tree": [("NODE", "end")],
    "NODE": [("letter",), ("letter", "(", "NODE", ")"), ("letter", "(", "NODE", ",", "NODE", ")")],
    "automaton": [("number", ":", "STEP", "STEPS", "|", "GOOD", "end")],
    "STEPS": [(), (";", "STEP", "STEPS")],
    "GOOD": [(), ("number", "GOOD")],
    "STEP": [("letter", "=", "number"), ("letter", "(", "number", ")", "=", "number"),
             ("letter", "(", "number", ",", "number", ")", "=", "number")],
}
TOKENS = ["letter", "number", "(", ")", ",", ":", "=", ";", "|", "end"]
WORDS = ["a letter", "a number", '"("', '")"', '","', '":"', '"="', '";"', '"|"', "the end"]


def opened_up(rests):
    """The rests of texts that begin with a token, for rests that can begin with any part."""
    found, waiting = set(), list(rests)
    while waiting:
        rest = waiting.pop()
        if rest and rest[0] in GRAMMAR:
            waiting += [way + rest[1:] for way in GRAMMAR[rest[0]]]
        else:
            found.add(rest)
    return found


def coming(rests):
    return [token for token in TOKENS if any(rest and rest[0] == token for rest in rests)]


def behind(rests, token):
    return opened_up({rest[1:] for rest in rests if rest and rest[0] == token})


def expected(rests):
    words = [WORDS[TOKENS.index(token)] for token in coming(rests)]
    return "expected " + (words[0] if len(words) == 1 else ", ".join(words[:-1]) + " or " + words[-1])


def beginnings(kind, most):
    """All beginnings of texts of at most so many tokens, without the end, each with the rests that can follow it."""
    found = [((), opened_up([(kind,)]))]
    for tokens, rests in found:
        if len(tokens) < most:
            found += [(tokens + (one,), behind(rests, one)) for one in coming(rests) if one != "end"]
    return found


def written(tokens):
    """A text of these tokens with a blank between them."""
    return " ".join({"letter": "a", "number": "1"}.get(token, token) for token in tokens)


def spaced(chance, pieces):
    """A text of the pieces with blanks anywhere between them, and the column of each piece and of the end."""
    text, columns = " " * chance.choice((0, 0, 1, 3)), []
    for piece in pieces:
        columns.append(len(text) + 1)
        text += piece + " " * chance.choice((0, 0, 1, 2))
    return text, columns + [len(text) + 1]


def tree_pieces(tree):
    told = ["abcd"[tree[0]]]
    for at, child in enumerate(tree[1:]):
        told += [",(" [at == 0]] + tree_pieces(child)
    return told + ([")"] if len(tree) > 1 else [])


def step_pieces(letter, states, goal):
    told = [letter]
    for at, state in enumerate(states):
        told += [",("[at == 0], str(state)]
    return told + ([")"] if states else []) + ["=", str(goal)]


def automaton_pieces(many, steps, good):
    """The pieces, with the places in them of each step and of the bar."""
    told, starts = [str(many), ":"], []
    for at, step in enumerate(steps):
        told += [";"] if at else []
        starts.append(len(told))
        told += step_pieces(*step)
    bar = len(told)
    return told + ["|"] + [str(state) for state in good], starts, bar


def first_problem(many, steps, good, starts, bar):
    """Point 110, word by word: the number of the piece and the words, or None."""
    if not 1 <= many <= 4:
        return 0, COUNT
    for at, (letter, states, goal) in enumerate(steps):
        if any(one == letter and len(other) != len(states) for one, other, _ in steps[:at]):
            return starts[at], OTHER
        for number, state in enumerate(states):
            if state >= many:
                return starts[at] + 2 + 2 * number, NO_STATE
        if any(one == letter and other == states for one, other, _ in steps[:at]):
            return starts[at], TWICE
        if goal >= many:
            return starts[at] + len(step_pieces(letter, states, goal)) - 1, NO_STATE
    used = {letter: len(states) for letter, states, _ in steps}
    if sorted(used) != list("abcd"[:len(used)]):
        return bar, SYMBOL
    needed = {(letter, states) for letter in used for states in itertools.product(range(many), repeat=used[letter])}
    if needed != {(letter, states) for letter, states, _ in steps}:
        return bar, STEP
    for at, state in enumerate(good):
        if state >= many:
            return bar + 1 + at, NO_STATE
        if state in good[:at]:
            return bar + 1 + at, TWICE_GOOD
    return None


def steps_of(automaton):
    found = []
    for symbol, (arity, entry) in enumerate(zip(automaton[0], automaton[2])):
        for states in itertools.product(range(len(automaton[1])), repeat=arity):
            found.append(("abcd"[symbol], states, helpers.entry_state(entry, states)))
    return found


class Examples(TextCase):
    def test_the_interface_and_point_114(self):
        self.shows(read_tree((0, 1, 2), "c(a, b(a))"), "(2, (0,), (1, (0,)))")
        self.shows(read_automaton("2: b(1) = 0; a = 0; b(0) = 1 | 1"), "((0, 1), (False, True), (0, (1, 0)))")
        self.shows((next_tokens("c(a", "tree"), next_tokens("c", "tree"), next_tokens("2: a = 0", "automaton")),
                   repr((['"("', '")"', '","'], ['"("', 'the end'], ['";"', '"|"'])))
        self.wrong_text(6, OTHER, read_tree, (0, 0, 2), "c(a, b(a))")


class Grammar(TextCase):
    def test_what_can_come_and_what_cannot(self):
        """Points 106 and 107: at each place of all short texts, and at their ends."""
        told = set()
        for kind, most in (("tree", 9), ("automaton", 13)):
            for tokens, rests in beginnings(kind, most):
                text = written(tokens)
                words = [WORDS[TOKENS.index(one)] for one in coming(rests)]
                self.same(next_tokens(text, kind), words)
                told.add(tuple(words))
                for token in TOKENS:
                    if token != "end" and token not in coming(rests):
                        column = len(text) + (2 if tokens else 1)
                        wrong = written(tokens + (token, "(", "|"))
                        self.wrong_text(column, expected(rests), next_tokens, wrong, kind)
                        if kind == "tree":
                            self.wrong_text(column, expected(rests), read_tree, (0,), wrong)
                        else:
                            self.wrong_text(column, expected(rests), read_automaton, wrong)
                if "end" not in coming(rests):
                    for blanks in ("", "   "):
                        column = len(text + blanks) + 1
                        if kind == "tree":
                            self.wrong_text(column, expected(rests), read_tree, (0,), text + blanks)
                        else:
                            self.wrong_text(column, expected(rests), read_automaton, text + blanks)
        self.assertEqual(len(told), 13)

    def test_words(self):
        self.wrong_text(1, "expected a letter", read_tree, (0,), "")
        self.wrong_text(3, "expected a letter", read_tree, (0,), "  ")
        self.wrong_text(1, "expected a number", read_automaton, "")
        self.wrong_text(2, 'expected "(" or the end', read_tree, (0,), "ab")
        self.wrong_text(4, 'expected "(", ")" or ","', read_tree, (0, 2), "b(a")
        self.wrong_text(6, 'expected "(" or ")"', read_tree, (0, 2), "b(a,a,a)")
        self.wrong_text(8, 'expected ")" or ","', read_tree, (0, 1), "b(b(a) a)")
        self.wrong_text(5, "expected the end", read_tree, (0, 1), "b(a))")
        self.wrong_text(2, 'expected ":"', read_automaton, "1;")
        self.wrong_text(5, 'expected "(" or "="', read_automaton, "1:a b = 0 |")
        self.wrong_text(5, 'expected a number', read_automaton, "1:a(a) = 0 |")
        self.wrong_text(6, 'expected ")" or ","', read_automaton, "1:a(0=0 |")
        self.wrong_text(8, 'expected ")"', read_automaton, "1:a(0,0,0)=0 |")
        self.wrong_text(7, 'expected "="', read_automaton, "1:a(0)|")
        self.wrong_text(6, 'expected ";" or "|"', read_automaton, "1:a=0,|")
        self.wrong_text(8, "expected a number or the end", read_automaton, "1:a=0|0|")

    def test_the_end_of_a_beginning_is_never_a_problem(self):
        self.shows((next_tokens("", "tree"), next_tokens("   ", "automaton")), "(['a letter'], ['a number'])")
        self.shows((next_tokens(" a ", "tree"), next_tokens("1:a=0|", "automaton")),
                   repr((['"("', "the end"], ["a number", "the end"])))
        self.shows((next_tokens("b(a,b(a,a", "tree"), next_tokens("b(a,b(a,a)", "tree")),
                   repr((['"("', '")"'], ['")"'])))
        self.shows((next_tokens("b(a,b(a,a))", "tree"), next_tokens("b(b(a)", "tree")),
                   repr((["the end"], ['")"', '","'])))

    def test_a_parenthesis_that_would_be_nested_too_deep_can_come(self):
        self.shows(next_tokens("b(" * 14 + "b", "tree"), repr(['"("', '")"', '","']))
        self.wrong_text(30, "nested too deep", next_tokens, "b(" * 15, "tree")
        self.shows(next_tokens("b(" * 14 + "a" + ")" * 13, "tree"), repr(['")"', '","']))

    def test_a_beginning_has_no_other_problems_than_those_of_tokens_and_grammar(self):
        self.shows(next_tokens("d(d,d)", "tree"), "['the end']")
        self.shows(next_tokens("a(" + "b(a,a)," + "a", "tree"), repr(['"("', '")"']))
        self.shows(next_tokens("9: a = 7; a = 7; a(3) = 9 | 8 8", "automaton"), "['a number', 'the end']")


class Order(TextCase):
    def test_problems_of_tokens_go_ahead_of_those_of_grammar(self):
        """Points 105 and 107."""
        self.wrong_text(5, "no token begins here", read_tree, (0,), ") ( ?")
        self.wrong_text(3, "a number has at most 6 digits", read_tree, (0,), ") 1234567 ?")
        self.wrong_text(16, "nested too deep", read_tree, (0,), ")" + "(" * 15)
        self.wrong_text(5, "no token begins here", read_automaton, "a a ?")
        self.wrong_text(3, "a number has at most 6 digits", next_tokens, "a 0000000", "automaton")
        self.wrong_text(31, "no token begins here", next_tokens, "a a" + " " * 27 + "e", "tree")

    def test_problems_of_grammar_go_ahead_of_the_others(self):
        """Points 107, 109 and 110."""
        self.wrong_text(8, 'expected "(", ")" or ","', read_tree, (0, 2), "d(d,b(d")
        self.wrong_text(8, 'expected "(" or ")"', read_tree, (0, 2), "d(d(d,d")
        self.wrong_text(3, 'expected "(" or the end', read_tree, (0,), "d a")
        self.wrong_text(18, "expected a number or the end", read_automaton, "9:a=9;a(9)=9|9 9 a")
        self.wrong_text(14, 'expected ";" or "|"', read_automaton, "9:a=9;a(9)=9 ")


class Trees(TextCase):
    def test_trees_of_all_arities(self):
        """Points 108 and 112: also with blanks between tokens."""
        chance = random.Random(931)
        for arities in MANY_ARITIES:
            for tree in all_trees(arities, 6)[:150]:
                self.same(read_tree(arities, tree_text(arities, tree)), tree)
                text, _ = spaced(chance, tree_pieces(tree))
                self.same(read_tree(arities, text), tree)

    def test_trees_of_15_nodes_and_the_16th_letter(self):
        full = perfect_tree(4, 0, 1)
        self.same(read_tree((0, 2), tree_text((0, 2), full)), full)
        self.same(read_tree((0, 1), "b(" * 14 + "a" + ")" * 14), nested_tree(14))
        text = "b(" + tree_text((0, 2), full) + ", a)"
        letters = [column for column, sign in enumerate(text, 1) if sign in "ab"]
        self.assertEqual((len(letters), text[letters[14] - 1], text[letters[15] - 1]), (17, "a", "a"))
        # At the 16th letter the number of nodes is told first, and ahead of it any other problem.
        for letter in "abcd":
            self.wrong_text(letters[15], MANY, read_tree, (0, 2), text[:letters[15] - 1] + letter + text[letters[15]:])
        for at in range(15):
            for letter, words in (("d", NO_SYMBOL), ("a" if text[letters[at] - 1] == "b" else "b", OTHER)):
                other = text[:letters[at] - 1] + letter + text[letters[at]:]
                self.wrong_text(letters[at], words, read_tree, (0, 2), other)
        self.wrong_text(1, NO_SYMBOL, read_tree, (0,), text)

    def test_problems_of_letters(self):
        """Point 109: the first one, with a second problem behind it."""
        for arities, text, column, words in [
            ((0,), "b", 1, NO_SYMBOL), ((0,), " d", 2, NO_SYMBOL), ((0, 1, 2, 0), "d", 0, None),
            ((0, 1, 2), "d", 1, NO_SYMBOL), ((1,), "a", 1, OTHER), ((2,), "a", 1, OTHER), ((0,), "a(a)", 1, OTHER),
            ((0,), "a(a,a)", 1, OTHER), ((0, 1), "b", 1, OTHER), ((0, 1), "b(b)", 3, OTHER),
            ((0, 1), "b(a,a)", 1, OTHER), ((0, 2), "b(a)", 1, OTHER), ((0, 2), "b(a,b)", 5, OTHER),
            ((0, 2), "b(b,b)", 3, OTHER), ((0, 2), "b(b(a),c)", 3, OTHER), ((0, 2), "b(c,b(a))", 3, NO_SYMBOL),
            ((0, 2), "b(a,b(a, c(a)))", 10, NO_SYMBOL), ((0, 2), "b(b(a,a(a)),c)", 7, OTHER),
            ((0, 2), "c(c,c)", 1, NO_SYMBOL), ((0, 2), "b(a, b( a ,b))", 12, OTHER), ((0, 2), "d(a)", 1, NO_SYMBOL),
        ]:
            if words is None:
                self.shows(read_tree(arities, text), "(3,)")
            else:
                self.wrong_text(column, words, read_tree, arities, text)

    def test_against_a_plain_telling(self):
        """Point 109, for any trees with any arities."""
        chance = random.Random(932)
        kinds = {MANY: 0, NO_SYMBOL: 0, OTHER: 0, None: 0}
        trees = all_trees((0, 1, 2, 0), 5) * 2 + [perfect_tree(5), nested_tree(13), (2, nested_tree(6), nested_tree(9)),
                                              (2, nested_tree(6), nested_tree(6)), (2, perfect_tree(4), (0,))] * 20
        for tree in trees:
            arities = (0, 1, 2, 0) if chance.random() < 0.5 else chance.choice(MANY_ARITIES)
            arities = arities[:chance.choice((1, 2, 3, 4, 4))]
            text, columns = spaced(chance, tree_pieces(tree))
            letters = [column for column, piece in zip(columns, tree_pieces(tree)) if piece in "abcd"]
            wanted, waiting, at = None, [tree], 0
            while waiting and wanted is None:
                node = waiting.pop(0)
                waiting = list(node[1:]) + waiting
                at += 1
                if at == 16:
                    wanted = MANY
                elif node[0] >= len(arities):
                    wanted = NO_SYMBOL
                elif len(node) - 1 != arities[node[0]]:
                    wanted = OTHER
            kinds[wanted] += 1
            if wanted is None:
                self.same(read_tree(arities, text), tree)
            else:
                self.wrong_text(letters[at - 1], wanted, read_tree, arities, text)
        self.assertGreater(min(kinds.values()), 5)


class Automata(TextCase):
    def test_automata_of_all_kinds(self):
        """Points 108 and 112: also with blanks between tokens, with steps and good states in another sequence, and
        with zeros ahead of numbers."""
        chance = random.Random(933)
        for automaton in many_automata(934, 2):
            self.same(read_automaton(automaton_text(automaton)), automaton)
            steps, good = steps_of(automaton), [state for state, flag in enumerate(automaton[1]) if flag]
            chance.shuffle(steps)
            chance.shuffle(good)
            pieces = automaton_pieces(len(automaton[1]), steps, good)[0]
            pieces = [piece.zfill(chance.choice((1, 2, 6))) if piece.isdigit() else piece for piece in pieces]
            text, _ = spaced(chance, [piece + " " * (number > 2 and piece.isdigit())
                                      for number, piece in enumerate(pieces)])
            if len(text) <= 1000:
                self.same(read_automaton(text), automaton)

    def test_automata_of_0_1_4_and_5_states(self):
        self.shows(read_automaton("1: a = 0 | 0"), "((0,), (True,), (0,))")
        self.shows(read_automaton("1:a=0|"), "((0,), (False,), (0,))")
        self.shows(read_automaton("1:a(0,0)=0|"), "((2,), (False,), (((0,),),))")
        self.shows(read_automaton("000004:a=3|0 3"), "((0,), (True, False, False, True), (3,))")
        for number in ("0", "5", "00", "10", "999999", "000005", "000000"):
            self.wrong_text(3, COUNT, read_automaton, "  " + number + ": a = 0 | 0")
            self.wrong_text(1, COUNT, read_automaton, number + ": b = 7; b(8) = 7; b(8) = 7 | 8 8")

    def test_problems_of_steps(self):
        """Point 110: the first one, with a second problem behind it."""
        for text, column, words in [
            ("2:a=0;a(9)=9|", 7, OTHER), ("2:a(0)=0;a=9|", 10, OTHER), ("2:a(0)=0;a(0,9)=0|", 10, OTHER),
            ("2:a(0,0)=0;a(9)=0|", 12, OTHER), ("2:a(0)=0;b=0;a(1,1)=0|", 14, OTHER),
            ("2:a(2)=9|", 5, NO_STATE), ("2:a(2,3)=9|", 5, NO_STATE), ("2:a(1,3)=9|", 7, NO_STATE),
            ("2:a(0)=0;a(2)=9|", 12, NO_STATE), ("2:a(0,0)=0;a(0,2)=0|", 16, NO_STATE),
            ("2:a=0;a=9|", 7, TWICE), ("2:a(0)=0;a(0)=9|", 10, TWICE), ("2:a(0,1)=0;a(1,0)=0;a(0,1)=2|", 21, TWICE),
            ("2:a=0;b(1)=0;a=0|", 14, TWICE), ("2:a=2;a=2|", 5, NO_STATE), ("2:a(0)=3;a(0)=3|", 8, NO_STATE),
            ("2:a(0)=0;a(00)=0|", 10, TWICE), ("2:a(1)=0; a(1)=9; c = 0|", 11, TWICE),
            ("2:b=0|9", 6, SYMBOL), ("2:a=0;c=0|2 2", 10, SYMBOL), ("2:b(0)=0|9", 9, SYMBOL), ("2:d=0|", 6, SYMBOL),
            ("1:b=0;c=0;d=0|", 14, SYMBOL), ("1:a=0;c=0;d=0 |", 15, SYMBOL), ("1:b=0;d=0;a=0|", 14, SYMBOL),
            ("2:a(0)=0|9", 9, STEP), ("2:a(1)=0|9", 9, STEP), ("2:a=0;b(1)=0| 9", 13, STEP),
            ("2:a(0,0)=0;a(0,1)=0;a(1,1)=0|9", 29, STEP), ("2:b(0)=0;a=0|", 13, STEP), ("2:a(0)=0;c=0|", 13, SYMBOL),
            ("2:a=0|2 2", 7, NO_STATE), ("2:a=0|1 2 1", 9, NO_STATE), ("2:a=0|1 1 2", 9, TWICE_GOOD),
            ("2:a=0|0 1 0 1", 11, TWICE_GOOD), ("2:a=0|01 000001", 10, TWICE_GOOD), ("4:a=0|4", 7, NO_STATE),
            ("2:a=0|2", 7, NO_STATE), ("1:a=1|0 0", 5, NO_STATE), ("1:a(1)=0|", 5, NO_STATE),
        ]:
            with self.subTest(text=text):
                self.wrong_text(column, words, read_automaton, text)

    def test_against_a_plain_telling(self):
        """Point 110, for automata with one to three things that are changed."""
        chance = random.Random(935)
        kinds = dict.fromkeys([COUNT, OTHER, NO_STATE, TWICE, SYMBOL, STEP, TWICE_GOOD, None], 0)
        for automaton in many_automata(936, 6, tuple(arities for arities in MANY_ARITIES if len(arities) < 4)):
            many, steps = len(automaton[1]), steps_of(automaton)
            good = [state for state, flag in enumerate(automaton[1]) if flag]
            if chance.random() < 0.5:
                chance.shuffle(steps)
            for _ in range(chance.choice((0, 1, 1, 1, 2, 3))):
                what, at = chance.randrange(9), chance.randrange(len(steps))
                letter, states, goal = steps[at]
                if what == 0 and len(steps) > 1:
                    del steps[at]
                elif what == 1:
                    steps.insert(chance.randrange(len(steps) + 1), steps[at])
                elif what == 2:
                    steps[at] = (letter, states, chance.randrange(6))
                elif what == 3:
                    steps[at] = (letter, tuple([chance.randrange(5) for _ in states]), goal)
                elif what == 4:
                    steps[at] = (letter, tuple([0] * chance.randrange(3)), goal)
                elif what == 5:
                    gone = chance.choice("abcd")
                    steps = [step for step in steps if step[0] != gone] or steps
                elif what == 6:
                    many = chance.choice((0, 1, 2, 3, 4, 5))
                elif what == 7:
                    good.append(chance.randrange(5))
                else:
                    steps[at] = (chance.choice("abcd"), states, goal)
            pieces, starts, bar = automaton_pieces(many, steps, good)
            text, columns = spaced(chance, [piece + " " * (number > bar) for number, piece in enumerate(pieces)])
            wanted = first_problem(many, steps, good, starts, bar)
            kinds[wanted and wanted[1]] += 1
            if wanted is None:
                told = read_automaton(text)
                self.assertEqual(sorted(steps_of(told)), sorted(steps))
                self.same(told[1], tuple([state in good for state in range(many)]))
            else:
                self.wrong_text(columns[wanted[0]], wanted[1], read_automaton, text)
        self.assertGreater(min(kinds.values()), 5)

    def test_blanks_change_columns_only(self):
        """Point 112."""
        chance = random.Random(937)
        pieces, starts, bar = automaton_pieces(2, [("a", (), 0), ("b", (0,), 1), ("b", (0,), 1)], [0])
        for _ in range(20):
            text, columns = spaced(chance, pieces)
            self.wrong_text(columns[starts[2]], TWICE, read_automaton, text)
        for text in ("1 2", "12"):
            rest = ": a = 0 | 1"
            words = COUNT if text == "12" else 'expected ":"'
            self.wrong_text(1 if text == "12" else 3, words, read_automaton, text + rest)


class WrongArguments(TextCase):
    KINDS = [None, True, 0, "", "Tree", "tree ", "trees", "automata", b"tree", ("tree",), ["tree"], DEEP, DEEP_LIST]

    def test_each_is_refused_by_its_name_and_the_first_of_several(self):
        """Points 8 and 113."""
        self.refuses_in_order(next_tokens, ("a", "tree"), [("text", WRONG_TEXTS), ("kind", self.KINDS)])
        self.refuses_in_order(read_tree, ((0,), "a"), [("arities", WRONG_ARITIES), ("text", WRONG_TEXTS)])
        self.refuses_in_order(read_automaton, ("1:a=0|",), [("text", WRONG_TEXTS)])

    def test_wrong_values_go_ahead_of_problems_of_the_text(self):
        self.bad("kind", next_tokens, "?", "automata")
        self.bad("arities", read_tree, (3,), "?")
        self.wrong_text(1, "no token begins here", next_tokens, "?", "automaton")
        self.wrong_text(1, "no token begins here", read_tree, (0,), "?")

    def test_texts_of_1000_and_1001_characters(self):
        self.shows(read_tree((0,), " " * 999 + "a"), "(0,)")
        self.shows(read_automaton("1:a=0|" + " " * 994), "((0,), (False,), (0,))")
        self.shows(next_tokens("a" + " " * 999, "tree"), repr(['"("', "the end"]))
        self.bad("text", read_tree, (0,), "a" + " " * 1000)
        self.bad("text", read_automaton, "1:a=0|" + " " * 995)
        self.wrong_text(1001, "expected a letter", read_tree, (0,), " " * 1000)

    def test_equal_calls_return_equal_results(self):
        """Point 2: also after a returned list was changed."""
        for _ in range(2):
            told = next_tokens("c(a", "tree")
            self.shows(told, repr(['"("', '")"', '","']))
            told.clear()
            told = next_tokens("1:a=0|", "automaton")
            self.shows(told, repr(["a number", "the end"]))
            told.reverse()
            self.shows(read_tree((0, 1), "b(a)"), "(1, (0,))")
            with self.assertRaises(TextError):
                read_tree((0, 1), "b(b)")
            self.shows(symbols(read_tree((0, 1), "b(a)")), "[1, 0]")


if __name__ == "__main__":
    unittest.main()
