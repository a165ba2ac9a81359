"""Trees in part: points 115 to 118, 122 and 124, and rootfirst/sketches.py."""

import functools
import random
import unittest

from rootfirst.sketches import holes, is_sketch, matters, possible_states, verdict
from tests import helpers
from tests.helpers import (
    DEEP, DEEP_LIST, WRONG_PLACES, WRONG_SKETCHES, Case, all_sketches, all_trees, changed, count_nodes, filled, good,
    is_one_of, looking_automata, many_automata, nested_tree, perfect_tree, plain_holes, plain_verdict,
    plainly_matters, plainly_possible, random_automaton, reached_by_trees, state, tree_of_each,
)

BOTH = ((0, 0, 2), (False, False, True), (0, 1, ((0, 2, 2), (2, 1, 2), (2, 2, 2))))
MIXED = ((0, 1, 2), (True, False), (0, (1, 0), ((0, 1), (1, 0))))
NO_TREES = [((1, 2), (True, False), ((1, 0), ((0, 1), (1, 0)))), ((1,), (True,), ((0,),)),
            ((2, 2, 1), (False,), (((0,),), ((0,),), (0,)))]
MOST = {1: 7, 2: 5, 3: 5, 4: 4}


def is_plain_sketch(arities, value):
    """Point 115: whether the value is a sketch, told by making it node by node."""
    def count(node, left):
        if left < 1:
            return 1000
        if node is None:
            return 1
        if type(node) is not tuple or not node or not is_one_of(node[0], len(arities)):
            return 1000
        if len(node) != 1 + arities[node[0]]:
            return 1000
        return 1 + sum(count(child, left - 1) for child in node[1:])
    return count(value, 15) <= 15


@functools.lru_cache(maxsize=None)
def cases(seed):
    """Automata with trees, each with all small sketches, and some greater ones with at most four holes."""
    chance, found = random.Random(seed), []
    for automaton in [one for one in many_automata(seed, 1) + looking_automata(seed, 1)[:60] if 0 in one[0]]:
        arities = automaton[0]
        sketches = all_sketches(arities, MOST[len(arities)])
        greater = [one for one in all_sketches(arities, MOST[len(arities)] + 2)[len(sketches):]
                   if len(plain_holes(one)) < 5]
        for sketch in chance.sample(sketches, min(12, len(sketches))) + chance.sample(greater, min(6, len(greater))):
            found.append((automaton, sketch))
    return found


class Examples(Case):
    def test_the_interface_and_point_124(self):
        sketch = (2, None, (0,))
        self.shows((holes(BOTH, sketch), possible_states(BOTH, sketch), verdict(BOTH, sketch),
                    matters(BOTH, sketch, (0,))), "(((0,),), (0, 2), 'open', True)")
        self.shows((verdict(BOTH, (2, (2, (0,), (1,)), None)), matters(BOTH, (2, (2, (0,), (1,)), None), (1,)),
                    is_sketch(BOTH, (0, None))), "('good', False, False)")
        self.shows(verdict(BOTH, (2, (2, (0,), (1,)), (0,))), "'good'")


class Forms(Case):
    def test_all_trees_and_sketches_are_sketches(self):
        """Point 115."""
        for arities in [(0,), (0, 1), (0, 2), (0, 0, 2), (0, 1, 2), (2, 1, 0, 0)]:
            automaton = random_automaton(random.Random(951), arities, 2)
            for tree in all_trees(arities, 5):
                self.shows((is_sketch(automaton, tree), holes(automaton, tree)), "(True, ())")
            for sketch in all_sketches(arities, 5):
                self.shows(is_sketch(automaton, sketch), "True")
                self.same(holes(automaton, sketch), tuple(plain_holes(sketch)))
                self.assertEqual(list(holes(automaton, sketch)), sorted(holes(automaton, sketch)))

    def test_a_hole_alone(self):
        self.shows((is_sketch(BOTH, None), holes(BOTH, None)), "(True, ((),))")
        self.shows((possible_states(BOTH, None), verdict(BOTH, None), matters(BOTH, None, ())),
                   "((0, 1, 2), 'open', True)")
        all_good = (BOTH[0], (True,) * 3, BOTH[2])
        self.shows((verdict(all_good, None), matters(all_good, None, ())), "('good', False)")
        all_bad = (BOTH[0], (False,) * 3, BOTH[2])
        self.shows((verdict(all_bad, None), matters(all_bad, None, ())), "('bad', False)")

    def test_sketches_of_15_and_16_nodes_holes_counted(self):
        for sketch, many in [(nested_tree(14, None), 15), (nested_tree(15, None), 16), (perfect_tree(3), 7),
                             ((2, nested_tree(6, None), nested_tree(6, None)), 15), (nested_tree(14), 15),
                             ((2, nested_tree(6, None), nested_tree(7, None)), 16), (nested_tree(15), 16),
                             ((1, (2, nested_tree(6, None), nested_tree(6))), 16)]:
            self.assertEqual(count_nodes(sketch), many)
            self.same(is_sketch(MIXED, sketch), many <= 15)
            if many > 15:
                self.bad("sketch", holes, MIXED, sketch)
                self.bad("sketch", verdict, MIXED, sketch)
            else:
                self.same(holes(MIXED, sketch), tuple(plain_holes(sketch)))
        full = perfect_tree(4, 0, 2)
        for place in plain_holes((2, (2, (2, None, None), (2, None, None)), (2, (2, None, None), (2, None, None)))):
            sketch = helpers.exchanged(full, place, None)
            self.shows((is_sketch(MIXED, sketch), holes(MIXED, sketch)), repr((True, (place,))))
        self.shows(holes(MIXED, nested_tree(14, None)), repr(((0,) * 14,)))

    def test_what_is_no_sketch(self):
        for value in WRONG_SKETCHES:
            self.shows(is_sketch(MIXED, value), "False")
        for sketch in [None, (2, None, (1, None)), (0,), (2, (0,), (2, None, (0,)))]:
            self.shows(is_sketch(MIXED, sketch), "True")
            for at, value in enumerate([sketch] + (changed(sketch) if sketch else [])):
                with self.subTest(at=at):
                    self.same(is_sketch(MIXED, value), is_plain_sketch(MIXED[0], value))

    def test_the_automaton_of_is_sketch_is_not_checked(self):
        self.shows(is_sketch(((0, 1), None, None), (1, None)), "True")
        for automaton in NO_TREES:
            self.shows(is_sketch(automaton, None), "True")


class Verdicts(Case):
    def test_against_all_fillings_of_the_holes(self):
        """Points 116 to 118."""
        words, flags = {"good": 0, "bad": 0, "open": 0}, {True: 0, False: 0}
        for automaton, sketch in cases(952):
            word = plain_verdict(automaton, sketch)
            self.same(possible_states(automaton, sketch), plainly_possible(automaton, sketch))
            self.same(verdict(automaton, sketch), word)
            words[word] += 1
            for place in plain_holes(sketch):
                told = plainly_matters(automaton, sketch, place)
                self.same(matters(automaton, sketch, place), told)
                flags[told] += 1
        self.assertGreater(min(words.values()), 200)
        self.assertGreater(min(flags.values()), 200)

    def test_greater_trees_in_the_holes(self):
        """Point 116: whatever trees come, no other states are there."""
        chance = random.Random(953)
        for automaton, sketch in cases(954)[::3]:
            trees = all_trees(automaton[0], 7)[:400]
            told, word = possible_states(automaton, sketch), verdict(automaton, sketch)
            for _ in range(5):
                tree = filled(sketch, [chance.choice(trees) for _ in plain_holes(sketch)])
                self.assertIn(state(automaton, tree), told)
                self.assertIn(word, ("open", "good" if good(automaton, tree) else "bad"))

    def test_the_states_of_a_hole_and_of_a_tree(self):
        """Point 116."""
        for automaton in [one for one in many_automata(955, 1) if 0 in one[0]]:
            self.same(possible_states(automaton, None), reached_by_trees(automaton))
            for tree in all_trees(automaton[0], 4)[:20]:
                self.same(possible_states(automaton, tree), (state(automaton, tree),))
                self.same(verdict(automaton, tree), "good" if good(automaton, tree) else "bad")

    def test_holes_that_are_filled_further(self):
        """Point 117: a verdict that is not "open" stays."""
        chance = random.Random(956)
        kept = 0
        for automaton, sketch in cases(957):
            word = verdict(automaton, sketch)
            for place in plain_holes(sketch):
                symbol = chance.randrange(len(automaton[0]))
                further = helpers.exchanged(sketch, place, (symbol,) + (None,) * automaton[0][symbol])
                self.assertTrue(set(possible_states(automaton, further)) <= set(possible_states(automaton, sketch)))
                if word != "open":
                    self.same(verdict(automaton, further), word)
                    kept += 1
        self.assertGreater(kept, 200)

    def test_some_hole_matters_if_and_only_if_the_verdict_is_open(self):
        """Point 118."""
        some = 0
        for automaton, sketch in cases(958):
            told = [matters(automaton, sketch, place) for place in holes(automaton, sketch)]
            self.same(any(told), verdict(automaton, sketch) == "open")
            some += any(told) and not all(told)
        self.assertGreater(some, 20)

    def test_many_holes(self):
        """All holes matter where they are counted, and none does below what is lost."""
        sketch = perfect_tree(4)
        for place in plain_holes((2, (2, (2, None, None), (2, None, None)), (2, (2, None, None), (2, None, None)))):
            sketch = helpers.exchanged(sketch, place, None)
        self.shows((possible_states(MIXED, sketch), verdict(MIXED, sketch)), "((0, 1), 'open')")
        self.assertEqual(len(holes(MIXED, sketch)), 8)
        self.assertTrue(all(matters(MIXED, sketch, place) for place in holes(MIXED, sketch)))
        lost = ((0, 1, 2), (False, True, False), (0, (1, 1, 2), ((0, 1, 2), (1, 1, 2), (2, 2, 2))))
        self.shows((verdict(lost, (2, (1, None), None)), matters(lost, (2, (1, None), None), (0, 0)),
                    matters(lost, (2, (1, None), None), (1,))), "('good', False, False)")
        self.shows([matters(lost, (2, None, None), (at,)) for at in (0, 1)], "[True, True]")

    def test_states_that_no_tree_has_are_not_possible(self):
        automaton = ((0, 1), (True, False, False, True), (0, (3, 1, 1, 0)))
        self.shows((tree_of_each(automaton).keys() == {0, 3}, possible_states(automaton, None)), "(True, (0, 3))")
        self.shows((verdict(automaton, None), verdict(automaton, (1, None)), matters(automaton, (1, None), (0,))),
                   "('good', 'good', False)")


class WrongArguments(Case):
    WRONGS = [("automaton", helpers.WRONG_AUTOMATA + NO_TREES), ("sketch", WRONG_SKETCHES)]

    def test_each_is_refused_by_its_name_and_the_first_of_several(self):
        """Points 8 and 122."""
        for function in (holes, possible_states, verdict):
            self.refuses_in_order(function, (MIXED, (2, None, (0,))), self.WRONGS)
        places = [place for place in WRONG_PLACES] + [(), (1,), (0, 0), (0,) * 14]
        self.refuses_in_order(matters, (MIXED, (2, None, (0,)), (0,)), self.WRONGS + [("place", places)])
        self.refuses_in_order(matters, (MIXED, None, ()), [("automaton", [None]), ("sketch", [0]),
                                                           ("place", [(0,), None, 0, [], DEEP, DEEP_LIST])])

    def test_places_that_are_of_no_hole(self):
        self.bad("place", matters, MIXED, (0,), ())
        self.bad("place", matters, MIXED, (1, None), ())
        self.bad("place", matters, MIXED, (1, None), (0, 0))
        self.bad("place", matters, MIXED, (1, None), (False,))
        self.bad("place", matters, MIXED, (2, (0,), None), (0,))
        self.bad("place", matters, MIXED, (2, (0,), None), (True,))

    def test_automata_of_1_and_4_states_and_without_trees(self):
        one, four = ((0,), (True,), (0,)), ((0, 1), (True, False, False, True), (0, (1, 2, 3, 3)))
        self.shows((verdict(one, None), possible_states(one, None)), "('good', (0,))")
        self.shows((verdict(four, None), possible_states(four, nested_tree(2, None)),
                    verdict(four, nested_tree(2, None)), verdict(four, nested_tree(3, None))),
                   "('open', (2, 3), 'open', 'good')")
        for automaton in NO_TREES:
            self.bad("automaton", holes, automaton, None)
            self.bad("automaton", matters, automaton, None, None)

    def test_arguments_stay_and_equal_calls_return_equal_results(self):
        value = [2, [0], None]
        for _ in range(2):
            self.shows(is_sketch(BOTH, value), "False")
            self.shows((holes(BOTH, (2, None, None)), possible_states(BOTH, (2, None, (0,)))), "(((0,), (1,)), (0, 2))")
            self.shows((verdict(BOTH, None), matters(BOTH, (2, None, (0,)), (0,))), "('open', True)")
        self.assertEqual(value, [2, [0], None])


if __name__ == "__main__":
    unittest.main()
