"""Evidence for verdicts, and first completions: points 119, 120, 122 and 124, and rootfirst/verdicts.py."""

import functools
import itertools
import random
import unittest

from rootfirst.errors import TooLarge
from rootfirst.sketches import verdict
from rootfirst.verdicts import accepts_verdict, first_bad, first_good, verdict_evidence
from tests import helpers
from tests.helpers import (
    DEEP, DEEP_LIST, PARITY, WRONG_SKETCHES, Case, all_sketches, all_trees, changed, closed, completes, entry_state,
    filled, good, is_plain_tree, is_set_of, looking_automata, many_automata, nested_tree, nodes, perfect_tree,
    plain_holes, plain_verdict, reached_by_trees,
)

BOTH = ((0, 0, 2), (False, False, True), (0, 1, ((0, 2, 2), (2, 1, 2), (2, 2, 2))))
MIXED = ((0, 1, 2), (True, False), (0, (1, 0), ((0, 1), (1, 0))))
EVEN = ((0, 1), (True, False), (0, (1, 0)))
FOUR = ((0, 1), (True, False, False, True), (0, (1, 2, 3, 3)))
NO_TREES = [((1, 2), (True, False), ((1, 0), ((0, 1), (1, 0)))), ((1,), (True,), ((0,),))]
SEARCHED = {(0,): 1, (0, 1): 15, (1, 0): 15, (0, 2): 15, (2, 0): 15, (0, 1, 1): 9, (0, 0, 2): 9, (0, 1, 2): 9,
            (1, 2, 0): 9, (0, 0, 1, 2): 7, (2, 1, 0, 0): 7}


@functools.lru_cache(maxsize=None)
def searched(arities):
    return all_trees(arities, SEARCHED.get(arities, 7))


@functools.lru_cache(maxsize=None)
def cases(seed, some=8):
    chance, found = random.Random(seed), []
    for automaton in [one for one in many_automata(seed, 1) + looking_automata(seed, 1)[:60] if 0 in one[0]]:
        sketches = all_sketches(automaton[0], 7 if len(automaton[0]) < 3 else 5)
        found += [(automaton, sketch) for sketch in chance.sample(sketches, min(some, len(sketches)))]
    return found


def found_first(automaton, sketch, flag):
    """Point 120: the first one of a search through all small trees, or None."""
    for tree in searched(automaton[0]):
        if completes(sketch, tree) and good(automaton, tree) == flag:
            return tree
    return None


def judged(automaton, sketch, value):
    """Point 119, word by word."""
    if type(value) is not tuple or len(value) not in (2, 3) or type(value[0]) is not str:
        return False
    if len(value) == 3:
        if value[0] != "open" or not all(is_plain_tree(automaton[0], one) for one in value[1:]):
            return False
        if not all(completes(sketch, one) for one in value[1:]):
            return False
        return good(automaton, value[1]) and not good(automaton, value[2])
    word, states = value
    if word not in ("good", "bad") or not is_set_of(states, len(automaton[1])) or not closed(automaton, states):
        return False

    def come_to(part):
        if part is None:
            return states
        below = [come_to(child) for child in part[1:]]
        return {entry_state(automaton[2][part[0]], chosen) for chosen in itertools.product(*below)}

    return all(automaton[1][one] == (word == "good") for one in come_to(sketch))


class Examples(Case):
    def test_the_interface_and_point_124(self):
        sketch = (2, None, (0,))
        self.shows((first_good(BOTH, sketch), first_bad(BOTH, sketch), verdict_evidence(BOTH, sketch)),
                   "((2, (1,), (0,)), (2, (0,), (0,)), ('open', (2, (1,), (0,)), (2, (0,), (0,))))")
        self.shows((verdict_evidence(BOTH, (0,)), accepts_verdict(BOTH, (0,), ("bad", (0, 1, 2))),
                    accepts_verdict(BOTH, (0,), ("bad", (0,)))), "(('bad', (0, 1, 2)), True, False)")
        self.shows(verdict_evidence(BOTH, (2, (0,), (1,))), "('good', (0, 1, 2))")


class Firsts(Case):
    def test_against_a_search_through_all_small_trees(self):
        """Point 120."""
        kinds = {"found": 0, "greater": 0, "too large": 0, "none": 0}
        for automaton, sketch in cases(961):
            for flag, function in ((True, first_good), (False, first_bad)):
                wanted = found_first(automaton, sketch, flag)
                try:
                    told = function(automaton, sketch)
                except TooLarge as error:
                    self.assertEqual((error.what, wanted), ("tree", None))
                    self.assertIn(plain_verdict(automaton, sketch), ("open", "good" if flag else "bad"))
                    kinds["too large"] += 1
                    continue
                if told is None:
                    self.assertEqual((wanted, plain_verdict(automaton, sketch)), (None, "bad" if flag else "good"))
                    kinds["none"] += 1
                elif wanted is None:
                    self.assertGreater(nodes(told), nodes(searched(automaton[0])[-1]))
                    self.assertTrue(completes(sketch, told) and good(automaton, told) == flag)
                    kinds["greater"] += 1
                else:
                    self.same(told, wanted)
                    kinds["found"] += 1
        self.assertGreater(min(kinds[kind] for kind in ("found", "none")), 300)
        self.assertGreater(kinds["greater"], 0)

    def test_of_one_size_the_first(self):
        self.shows((first_good(BOTH, None), first_bad(BOTH, None)), "((2, (0,), (1,)), (0,))")
        self.shows((first_good(BOTH, (2, None, None)), first_bad(BOTH, (2, None, None))),
                   "((2, (0,), (1,)), (2, (0,), (0,)))")
        self.shows((first_good(BOTH, (2, (2, None, None), None)), first_bad(BOTH, (2, None, (2, (1,), None)))),
                   "((2, (2, (0,), (0,)), (1,)), (2, (1,), (2, (1,), (1,))))")
        turned = ((2, 0, 0), BOTH[1], (BOTH[2][2], 1, 0))
        self.shows((first_good(turned, None), first_bad(turned, None)), "((0, (1,), (2,)), (1,))")

    def test_sketches_without_holes(self):
        for automaton in many_automata(962, 1, ((0,), (0, 1), (0, 0, 2), (2, 1, 0, 0))):
            for tree in all_trees(automaton[0], 5)[:20]:
                pair = (tree, None) if good(automaton, tree) else (None, tree)
                self.same((first_good(automaton, tree), first_bad(automaton, tree)), pair)

    def test_completions_of_15_nodes_and_of_more(self):
        for many in (12, 13):
            self.same((first_good(EVEN, nested_tree(many, None)), first_bad(EVEN, nested_tree(many, None))),
                      (nested_tree(many + many % 2), nested_tree(many + 1 - many % 2)))
        self.same(first_good(EVEN, nested_tree(14, None)), nested_tree(14))
        self.too_large("tree", first_bad, EVEN, nested_tree(14, None))
        self.too_large("tree", verdict_evidence, EVEN, nested_tree(14, None))
        odd = (EVEN[0], (False, True), EVEN[2])
        self.same(first_bad(odd, nested_tree(14, None)), nested_tree(14))
        self.too_large("tree", first_good, odd, nested_tree(14, None))
        self.too_large("tree", verdict_evidence, odd, nested_tree(14, None))
        # A tree of 14 nodes and a hole, which is filled by a leaf or by one node more.
        last = ((0, 1), (True, False, True), (0, (1, 2, 2)))
        self.same((first_bad(last, None), first_bad(last, (1, None))), ((1, (0,)), (1, (0,))))
        self.shows((verdict(last, nested_tree(14, None)), first_bad(last, nested_tree(14, None)) is None,
                    verdict_evidence(last, nested_tree(14, None))), "('good', True, ('good', (0, 1, 2)))")
        full = perfect_tree(4, 0, 1)
        wide = helpers.exchanged(full, (1, 1, 1), None)
        self.same((first_good(PARITY, wide), first_bad(PARITY, helpers.exchanged(full, (1,), None))),
                  (full, (1, full[1], (0,))))
        self.too_large("tree", first_bad, PARITY, wide)

    def test_states_of_great_first_trees(self):
        """A hole needs a tree of 15 nodes, and the sketch has one more node."""
        chain = ((0, 2), (False, False, False, True), (0, ((1, 0, 0, 0), (0, 2, 0, 0), (0, 0, 3, 0), (0, 0, 0, 0))))
        self.same(first_good(chain, None), perfect_tree(4, 0, 1))
        self.same((first_bad(chain, None), first_bad(chain, (1, None, (0,)))), ((0,), (1, (0,), (0,))))
        spread = ((0, 1, 2), chain[1], (0, (0, 0, 0, 3), chain[2][1]))
        self.same(first_good(spread, None), perfect_tree(4))
        self.too_large("tree", first_good, spread, (1, None))
        self.too_large("tree", verdict_evidence, spread, (1, None))
        self.same(first_bad(spread, (1, None)), (1, (0,)))
        self.same(first_good(spread, (2, None, None)), perfect_tree(4))


class Evidence(Case):
    def test_what_the_program_returns_is_accepted(self):
        """Points 119 and 120."""
        words = {"good": 0, "bad": 0, "open": 0}
        for automaton, sketch in cases(963):
            word = plain_verdict(automaton, sketch)
            try:
                told = verdict_evidence(automaton, sketch)
            except TooLarge:
                self.assertEqual(word, "open")
                continue
            words[word] += 1
            if word == "open":
                self.same(told, ("open", first_good(automaton, sketch), first_bad(automaton, sketch)))
            else:
                self.same(told, (word, reached_by_trees(automaton)))
            self.shows(accepts_verdict(automaton, sketch, told), "True")
            self.assertTrue(judged(automaton, sketch, told))
        self.assertGreater(min(words.values()), 100)

    def test_all_evidence_with_states(self):
        """Points 1 and 119: of all values of this form just right ones are accepted, and some if the word is right."""
        accepted_words = {"good": 0, "bad": 0}
        others = 0
        for automaton, sketch in cases(964, 5):
            word, many = plain_verdict(automaton, sketch), len(automaton[1])
            for told in ("good", "bad"):
                accepted = []
                for size in range(many + 1):
                    for states in itertools.combinations(range(many), size):
                        right = accepts_verdict(automaton, sketch, (told, states))
                        self.same(right, judged(automaton, sketch, (told, states)))
                        accepted += [states] if right else []
                self.same(bool(accepted), told == word)
                accepted_words[told] += told == word
                others += len(accepted) > 1
        self.assertGreater(min(accepted_words.values()), 50)
        self.assertGreater(others, 30)

    def test_all_evidence_with_trees(self):
        """Points 1 and 119: other completions than the first ones are right, too."""
        kinds = {True: 0, False: 0}
        for automaton, sketch in cases(965, 4):
            trees = searched(automaton[0])[:12]
            trees = trees[:4] + [tree for tree in searched(automaton[0])[:200] if completes(sketch, tree)][:6]
            for one, other in itertools.product(trees, repeat=2):
                right = accepts_verdict(automaton, sketch, ("open", one, other))
                self.same(right, judged(automaton, sketch, ("open", one, other)))
                self.assertTrue(not right or plain_verdict(automaton, sketch) == "open")
                kinds[right] += 1
        self.assertGreater(min(kinds.values()), 300)

    def test_states_that_no_tree_has(self):
        """A closed set can have more states than trees have; some holes are then given more than they can have."""
        automaton = ((0, 1), (True, True, False), (0, (0, 1, 2)))
        for value, right in [(("good", (0,)), True), (("good", (0, 1)), True), (("good", (0, 1, 2)), False),
                             (("good", (0, 2)), False), (("good", (1,)), False), (("good", ()), False),
                             (("bad", (0,)), False), (("good", (1, 0)), False), (("good", (0, 0)), False)]:
            self.same(accepts_verdict(automaton, (1, None), value), right)
            self.same(judged(automaton, (1, None), value), right)
        # Without holes it does not matter what more stands in the set.
        self.shows(accepts_verdict(automaton, (1, (0,)), ("good", (0, 1, 2))), "True")

    def test_trees_of_15_and_16_nodes(self):
        one, other = nested_tree(14), nested_tree(13)
        for sketch in (None, (1, None), nested_tree(13, None)):
            self.shows((accepts_verdict(EVEN, sketch, ("open", one, other)),
                        accepts_verdict(EVEN, sketch, ("open", nested_tree(16), other)),
                        accepts_verdict(EVEN, sketch, ("open", one, nested_tree(15)))), "(True, False, False)")
        self.shows(accepts_verdict(EVEN, nested_tree(14, None), ("open", one, other)), "False")

    def test_one_thing_changed(self):
        for automaton, sketch in [(BOTH, (2, None, (0,))), (BOTH, (0,)), (BOTH, (2, (0,), (2, (1,), None))),
                                  (EVEN, None), (FOUR, (1, (1, (1, None)))), (MIXED, (2, None, (1, None)))]:
            value = verdict_evidence(automaton, sketch)
            self.shows(accepts_verdict(automaton, sketch, value), "True")
            for at, other in enumerate([value] + changed(value)):
                with self.subTest(at=at):
                    self.same(accepts_verdict(automaton, sketch, other), judged(automaton, sketch, other))

    def test_what_is_no_evidence(self):
        one, other = (2, (1,), (0,)), (2, (0,), (0,))
        for value in [None, True, 0, "", "open", (), [], ("open",), ("open", one), ("open", one, other, ()),
                      ["open", one, other], ("open", other, one), ("open", one, one), ("good", one, other),
                      ("open", one, None), ("open", None, other), ("open", [2, (1,), (0,)], other),
                      ("open", one, (2, (0,), (False,))), ("open", (True,), other), ("OPEN", one, other),
                      ("open", (2, (0,), (1,)), other), ("good", (0, 1, 2)), ("bad", (0, 1, 2)), ("open", (0, 1, 2)),
                      ("good", [0, 1, 2]), ("good", None), ("bad", 0), (None, (0, 1, 2)), (("good",), (0, 1, 2)),
                      (True, one, other), ("open", DEEP, other), ("open", one, DEEP),
                      ("open", nested_tree(5000), other),
                      ("good", DEEP), ("bad", (DEEP,)), (DEEP, (0,)), (DEEP_LIST, one, other), DEEP, DEEP_LIST,
                      (DEEP,), ("open", one, other) * 30000]:
            self.shows(accepts_verdict(BOTH, (2, None, (0,)), value), "False")
        self.shows(accepts_verdict(BOTH, (2, None, (0,)), ("open", one, other)), "True")
        for states in [(0, 1, True), (False, 1, 2), (0, 1, 2, 3), (-1, 0, 1, 2), (0, 2, 1), (0, 1), (0, 0, 1, 2),
                       ("0",)]:
            self.shows(accepts_verdict(BOTH, (0,), ("bad", states)), "False")

    def test_automata_of_1_and_4_states(self):
        one = ((0,), (True,), (0,))
        self.shows((verdict_evidence(one, None), first_good(one, None), first_bad(one, None)),
                   "(('good', (0,)), (0,), None)")
        self.shows((verdict_evidence(FOUR, None), verdict_evidence(FOUR, nested_tree(3, None))),
                   "(('open', (0,), (1, (0,))), ('good', (0, 1, 2, 3)))")
        self.same(filled(nested_tree(3, None), [(0,)]), nested_tree(3))
        self.assertEqual(plain_holes(nested_tree(3, None)), [(0, 0, 0)])


class WrongArguments(Case):
    WRONGS = [("automaton", helpers.WRONG_AUTOMATA + NO_TREES), ("sketch", WRONG_SKETCHES)]

    def test_each_is_refused_by_its_name_and_the_first_of_several(self):
        """Points 8 and 122."""
        for function in (first_good, first_bad, verdict_evidence):
            self.refuses_in_order(function, (MIXED, (2, None, (0,))), self.WRONGS)
        self.refuses_in_order(accepts_verdict, (MIXED, (2, None, (0,)), None), self.WRONGS)
        self.refuses_in_order(accepts_verdict, (MIXED, None, ("open", (0,), (1, (0,)))), self.WRONGS)

    def test_wrong_values_go_ahead_of_what_is_too_large(self):
        self.bad("automaton", first_bad, EVEN[:2], nested_tree(14, None))
        self.bad("sketch", first_bad, EVEN, nested_tree(15, None))
        self.too_large("tree", first_bad, EVEN, nested_tree(14, None))

    def test_automata_without_trees(self):
        for automaton in NO_TREES:
            self.bad("automaton", verdict_evidence, automaton, None)
            self.bad("automaton", accepts_verdict, automaton, None, ("good", ()))

    def test_arguments_stay_and_equal_calls_return_equal_results(self):
        value = ["bad", [0, 1, 2]]
        for _ in range(2):
            self.shows(accepts_verdict(BOTH, (0,), value), "False")
            self.shows(verdict_evidence(BOTH, (2, None, (0,))), "('open', (2, (1,), (0,)), (2, (0,), (0,)))")
            self.shows((first_good(BOTH, None), first_bad(BOTH, None)), "((2, (0,), (1,)), (0,))")
        self.assertEqual(value, ["bad", [0, 1, 2]])


if __name__ == "__main__":
    unittest.main()
