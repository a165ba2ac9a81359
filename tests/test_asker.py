"""An asker: points 121 to 124, and rootfirst/asker.py."""

import random
import unittest

from rootfirst.asker import Asker
from rootfirst.errors import NotPossible, TooLarge
from rootfirst.sketches import matters, verdict
from tests import helpers
from tests.helpers import (
    Case, all_trees, at_place, completes, count_nodes, exchanged, good, looking_automata, many_automata, nested_tree,
    perfect_tree, plain_holes, plain_verdict, plainly_matters,
)

BOTH = ((0, 0, 2), (False, False, True), (0, 1, ((0, 2, 2), (2, 1, 2), (2, 2, 2))))
MIXED = ((0, 1, 2), (True, False), (0, (1, 0), ((0, 1), (1, 0))))
EVEN = ((0, 1), (True, False), (0, (1, 0)))
NO_TREES = [((1, 2), (True, False), ((1, 0), ((0, 1), (1, 0)))), ((1,), (True,), ((0,),))]


def plainly_asked(automaton, sketch):
    """Point 121: the first hole that matters, or None, against all fillings of the holes."""
    for place in sorted(plain_holes(sketch)):
        if plainly_matters(automaton, sketch, place):
            return place
    return None


def some_automata(seed):
    return [one for one in many_automata(seed, 1) + looking_automata(seed, 1)[:60] if 0 in one[0]]


class Examples(Case):
    def test_the_interface_and_point_124(self):
        asker = Asker(BOTH)
        self.shows((asker.ask(), asker.tell(2), asker.ask(), asker.tell(0), asker.ask()),
                   "((), 'open', (0,), 'open', (1,))")
        self.shows((asker.tell(1), asker.ask(), asker.sketch(), asker.take_back(), asker.verdict()),
                   "('good', None, (2, (0,), (1,)), 1, 'open')")


class Asking(Case):
    def test_a_new_asker(self):
        for automaton in some_automata(971):
            asker = Asker(automaton)
            self.shows((asker.sketch(), asker.take_back(), asker.sketch()), "(None, None, None)")
            word = plain_verdict(automaton, None)
            self.same((asker.verdict(), asker.ask()), (word, () if word == "open" else None))

    def test_it_finds_out_whether_hidden_trees_are_good(self):
        """Point 121: it asks for the first hole that matters, and for nothing if the verdict is not open."""
        chance = random.Random(972)
        words, skipped = {"good": 0, "bad": 0}, 0
        for automaton in some_automata(973):
            trees = all_trees(automaton[0], 9 if len(automaton[0]) < 3 else 6)[:300]
            for tree in chance.sample(trees, min(8, len(trees))):
                asker, sketch = Asker(automaton), None
                while plain_verdict(automaton, sketch) == "open":
                    place = plainly_asked(automaton, sketch)
                    self.same((asker.sketch(), asker.verdict(), asker.ask()), (sketch, "open", place))
                    symbol = at_place(tree, place)[0]
                    sketch = exchanged(sketch, place, (symbol,) + (None,) * automaton[0][symbol])
                    self.same(asker.tell(symbol), plain_verdict(automaton, sketch))
                word = "good" if good(automaton, tree) else "bad"
                self.same((asker.sketch(), asker.verdict(), asker.ask()), (sketch, word, None))
                self.assertTrue(completes(sketch, tree))
                words[word] += 1
                skipped += bool(plain_holes(sketch))
        self.assertGreater(min(words.values()), 100)
        self.assertGreater(skipped, 50)

    def test_it_looks_past_holes_that_do_not_matter(self):
        """The first child's state is lost above, so that only the second child matters."""
        second = ((0, 0, 2), (True, False), (0, 1, ((0, 1), (0, 1))))
        asker = Asker(second)
        self.shows((asker.tell(2), asker.ask(), asker.tell(2), asker.ask(), asker.tell(1), asker.ask()),
                   "('open', (1,), 'open', (1, 1), 'bad', None)")
        self.shows(asker.sketch(), "(2, None, (2, None, (1,)))")
        self.shows([matters(second, asker.sketch(), place) for place in plain_holes(asker.sketch())], "[False, False]")

    def test_nothing_to_ask(self):
        for automaton, word in [(((0, 1), (True, True), (0, (1, 0))), "good"),
                                (((0, 1), (False, False), (0, (1, 0))), "bad"), (((0,), (True,), (0,)), "good")]:
            asker = Asker(automaton)
            self.same((asker.ask(), asker.verdict()), (None, word))
            self.not_possible("sure", asker.tell, 0)
            self.shows((asker.sketch(), asker.take_back()), "(None, None)")
        asker = Asker(EVEN)
        self.shows((asker.tell(0), asker.ask()), "('good', None)")
        for _ in range(2):
            self.not_possible("sure", asker.tell, 1)
            self.shows((asker.sketch(), asker.verdict()), "((0,), 'good')")

    def test_sketches_of_15_and_16_nodes(self):
        asker = Asker(EVEN)
        for many in range(14):
            self.shows((asker.ask(), asker.tell(1)), repr(((0,) * many, "open")))
        self.same((asker.sketch(), count_nodes(asker.sketch())), (nested_tree(14, None), 15))
        for _ in range(2):
            self.too_large("sketch", asker.tell, 1)
            self.same((asker.sketch(), asker.ask(), asker.verdict()), (nested_tree(14, None), (0,) * 14, "open"))
        self.shows((asker.tell(0), asker.take_back(), asker.take_back()), "('good', 0, 1)")
        self.same((asker.sketch(), asker.tell(1), asker.tell(0)), (nested_tree(13, None), "open", "good"))
        asker = Asker(MIXED)
        for symbol in (2, 2, 2, 2, 2, 2, 2):
            asker.tell(symbol)
        self.assertEqual(count_nodes(asker.sketch()), 15)
        self.too_large("sketch", asker.tell, 2)
        self.too_large("sketch", asker.tell, 1)
        self.shows(asker.tell(0), "'open'")
        asker = Asker(MIXED)
        for symbol in (1, 2, 2, 2, 2, 2, 2):
            asker.tell(symbol)
        self.assertEqual(count_nodes(asker.sketch()), 14)
        self.too_large("sketch", asker.tell, 2)
        self.shows((asker.tell(1), count_nodes(asker.sketch())), "('open', 15)")

    def test_the_order_of_errors(self):
        """Point 122: what is not a symbol, then what is sure, then what is too large."""
        asker = Asker(EVEN)
        for _ in range(14):
            asker.tell(1)
        for symbol in helpers.wrong_integers(0, 1):
            self.bad("symbol", asker.tell, symbol)
        self.too_large("sketch", asker.tell, 1)
        asker.tell(0)
        for symbol in helpers.wrong_integers(0, 1):
            self.bad("symbol", asker.tell, symbol)
        # The sketch has 15 nodes, but nothing is asked any more.
        self.not_possible("sure", asker.tell, 1)
        sure = Asker(((0, 1, 2), (True,), (0, (0,), ((0,),))))
        self.bad("symbol", sure.tell, 3)
        self.not_possible("sure", sure.tell, 2)


class TakingBack(Case):
    def test_the_last_one_first(self):
        """Point 123."""
        chance = random.Random(974)
        told_back = 0
        for automaton in some_automata(975):
            asker, before, told = Asker(automaton), [], []
            for _ in range(25):
                now = (asker.sketch(), asker.verdict(), asker.ask())
                if chance.random() < 0.35:
                    self.same(asker.take_back(), told.pop() if told else None)
                    if before:
                        now = before.pop()
                        told_back += 1
                    self.same((asker.sketch(), asker.verdict(), asker.ask()), now)
                    continue
                symbol = chance.randrange(len(automaton[0]))
                try:
                    asker.tell(symbol)
                except (NotPossible, TooLarge):
                    self.same((asker.sketch(), asker.verdict(), asker.ask()), now)
                    continue
                before.append(now)
                told.append(symbol)
                self.same(asker.verdict(), verdict(automaton, asker.sketch()))
        self.assertGreater(told_back, 200)

    def test_nothing_to_take_back(self):
        asker = Asker(BOTH)
        self.shows((asker.take_back(), asker.take_back(), asker.ask()), "(None, None, ())")
        asker.tell(2)
        self.shows((asker.take_back(), asker.take_back(), asker.sketch(), asker.verdict()), "(2, None, None, 'open')")

    def test_a_told_0_is_taken_back(self):
        asker = Asker(EVEN)
        asker.tell(0)
        self.shows((asker.take_back(), asker.sketch(), asker.take_back()), "(0, None, None)")

    def test_askers_know_nothing_of_one_another(self):
        one, other = Asker(BOTH), Asker(BOTH)
        one.tell(2)
        one.tell(0)
        self.shows((other.sketch(), other.ask(), other.take_back()), "(None, (), None)")
        other.tell(1)
        self.shows((other.verdict(), one.sketch(), one.verdict(), one.ask()), "('bad', (2, (0,), None), 'open', (1,))")
        self.shows((one.take_back(), other.sketch(), other.take_back(), one.sketch()), "(0, (1,), 1, (2, None, None))")

    def test_questions_change_nothing(self):
        asker = Asker(MIXED)
        asker.tell(2)
        for _ in range(3):
            self.shows((asker.ask(), asker.sketch(), asker.verdict()), "((0,), (2, None, None), 'open')")


class WrongArguments(Case):
    def test_automata(self):
        """Point 122."""
        for automaton in helpers.WRONG_AUTOMATA + NO_TREES:
            self.bad("automaton", Asker, automaton)
        great = ((0, 1), (True,) * 5, (0, (0,) * 5))
        self.bad("automaton", Asker, great)

    def test_symbols(self):
        asker = Asker(MIXED)
        for symbol in helpers.wrong_integers(0, 2):
            self.bad("symbol", asker.tell, symbol)
            self.shows((asker.sketch(), asker.take_back()), "(None, None)")
        self.shows((asker.tell(2), asker.tell(1)), "('open', 'open')")

    def test_trees_that_are_too_great_for_a_sketch(self):
        asker = Asker(((0, 2), (True, False), (1, ((0, 1), (1, 0)))))
        full = perfect_tree(5, 0, 1)
        with self.assertRaises(TooLarge):
            while True:
                asker.tell(at_place(full, asker.ask())[0])
        self.assertEqual(count_nodes(asker.sketch()), 15)


if __name__ == "__main__":
    unittest.main()
