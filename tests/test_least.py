"""Least tables: points 83 to 85 and 92, and rootfirst/least.py."""

import itertools
import random
import unittest

from rootfirst.exchange import is_closed
from rootfirst.least import is_enough, least_table, stands_for
from rootfirst.right import wrong_tree
from rootfirst.topdown import is_table, run
from tests import helpers
from tests.helpers import (
    BRANCHING, LOOKS, SWAP, Case, all_trees, entry_state, exchanged_from, good, looking_automata, random_automaton,
    random_table, reached_by_trees, taken_by,
)

ONE = ((0, 0, 2), (False, False, True, False), (0, 1, ((3, 2, 3, 3), (3, 3, 3, 3), (3, 3, 3, 3), (3, 3, 3, 3))))
MIXED = ((0, 1, 2), (True, False), (0, (1, 0), ((0, 1), (1, 0))))
NO_TREES = ((1, 2), (True, False), ((1, 0), ((0, 1), (1, 0))))
# One symbol moves the four states on, and one changes the first two: all sets of two states are come to.
MOVES = ((0, 1, 1, 1), (True, True, False, False), (0, (1, 2, 3, 0), (1, 0, 2, 3), (0, 0, 2, 3)))

# A tree is good if the number of its nodes, less one, is even, or can be divided by 3 or by 4.
TURNING = [((0, 1), (True,) + (False,) * more, (0, tuple(range(1, more + 1)) + (0,))) for more in (1, 2, 3)]


def reference(automaton):
    """Point 83, word by word: the least table, and the sets for which its states stand."""
    reached = reached_by_trees(automaton)
    sets = [tuple([state for state in reached if automaton[1][state]])]
    rows = []
    for chosen in sets:
        row = []
        for arity, entry in zip(automaton[0], automaton[2]):
            leading = [states for states in itertools.product(reached, repeat=arity)
                       if entry_state(entry, states) in chosen]
            if not leading:
                row.append(None)
                continue
            below = [tuple(sorted({states[child] for states in leading})) for child in range(arity)]
            sets += [one for number, one in enumerate(below) if one not in sets and one not in below[:number]]
            row.append(tuple([sets.index(one) for one in below]))
        rows.append(tuple(row))
    return (0, tuple(rows)), tuple(sets)


def takes_all_good(automaton, table):
    """Whether a table takes every good tree, of whatever size, by the states and takers of all trees."""
    return not any(automaton[1][state] and table[0] not in takers for state, takers in taken_by(automaton, table))


class Examples(Case):
    def test_the_interface(self):
        self.shows((least_table(ONE), stands_for(ONE), is_enough(ONE)),
                   "((0, ((None, None, (1, 2)), ((), None, None), (None, (), None))), ((2,), (0,), (1,)), True)")
        self.shows((least_table(SWAP), is_enough(SWAP)), "((0, ((None, None, (1, 1)), ((), (), None))), False)")

    def test_point_92(self):
        """Three states for the pair alone; with both pairs four trees are taken, two of them bad."""
        self.assertEqual(len(least_table(ONE)[1]), 3)
        self.assertEqual([tree for tree in all_trees(ONE[0], 7) if run(ONE[0], least_table(ONE), tree)[0]],
                         [(2, (0,), (1,))])
        taken = [tree for tree in all_trees(SWAP[0], 7) if run(SWAP[0], least_table(SWAP), tree)[0]]
        self.shows(taken, "[(2, (0,), (0,)), (2, (0,), (1,)), (2, (1,), (0,)), (2, (1,), (1,))]")
        self.shows([good(SWAP, tree) for tree in taken], "[False, True, True, False]")


class Least(Case):
    def test_word_by_word(self):
        """Point 83."""
        sizes = set()
        for automaton in looking_automata(701, 4) + [MOVES] + helpers.many_automata(702, 4):
            table, sets = reference(automaton)
            self.same(least_table(automaton), table)
            self.same(stands_for(automaton), sets)
            sizes.add(len(sets))
            self.assertEqual(len(sets), len(table[1]))
            self.assertEqual(len(set(sets)), len(sets))
            self.assertTrue(all(one != () for one in sets[1:]))
            if len(sets) <= 4:
                self.shows(is_table(automaton[0], table), "True")
        self.assertLessEqual({1, 2, 3, 4, 5, 6, 7}, sizes)

    def test_tables_of_1_to_16_states(self):
        self.shows((least_table(((0,), (True,), (0,))), stands_for(((0,), (True,), (0,)))), "((0, (((),),)), ((0,),))")
        self.shows(least_table(((0,), (False,), (0,))), "(0, ((None,),))")
        none = ((0, 1, 1, 1), (False,) * 4, MOVES[2])
        self.shows((least_table(none), stands_for(none)), "((0, ((None, None, None, None),)), ((),))")
        # All sets but the empty one are come to, from whichever states are good.
        for flags in itertools.product((True, False), repeat=4):
            automaton = ((0, 1, 1, 1), flags, MOVES[2])
            self.assertEqual(len(stands_for(automaton)), 15 if True in flags and False in flags else 1)
            self.same((least_table(automaton), stands_for(automaton)), reference(automaton))
        chain = [((0, 1), (True,) + (False,) * more, (0, tuple(range(1, more + 1)) + (0,))) for more in range(4)]
        self.assertEqual([len(stands_for(automaton)) for automaton in chain], [1, 2, 3, 4])
        self.shows(least_table(chain[3]), "(0, (((), (1,)), (None, (2,)), (None, (3,)), (None, (0,))))")

    def test_the_start_stands_for_the_good_states(self):
        for automaton in looking_automata(703, 1):
            self.assertEqual(least_table(automaton)[0], 0)
            self.same(stands_for(automaton)[0],
                      tuple([state for state in reached_by_trees(automaton) if automaton[1][state]]))

    def test_no_trees(self):
        self.shows((least_table(NO_TREES), stands_for(NO_TREES), is_enough(NO_TREES)),
                   "((0, ((None, None),)), ((),), True)")

    def test_all_states_good(self):
        for arities in BRANCHING:
            automaton = (arities, (True,) * 3, random_automaton(random.Random(704), arities, 3)[2])
            start = tuple(reached_by_trees(automaton))
            self.same(stands_for(automaton)[0], start)
            for tree in all_trees(arities, 5):
                self.assertTrue(is_taken(least_table(automaton), tree))
            self.shows(is_enough(automaton), "True")

    def test_what_it_takes_comes_by_exchange_at_the_depth_1(self):
        """Point 84."""
        told = {True: 0, False: 0}
        for automaton in looking_automata(705, 2):
            table = least_table(automaton)
            most = {(0, 2): 11, (2, 0): 11, (0, 0, 2): 7}.get(automaton[0], 6)
            trees = all_trees(automaton[0], most)
            come = exchanged_from([tree for tree in trees if good(automaton, tree)], 1, most)
            for tree in trees:
                taken = is_taken(table, tree)
                if tree in come:
                    self.assertTrue(taken)
                elif helpers.nodes(tree) < 5:
                    told[taken] += 1
        # Few small trees come from greater ones only.
        self.assertGreater(told[False], 100)
        self.assertLess(20 * told[True], told[False])

    def test_it_takes_no_more_than_any_table_that_takes_every_good_tree(self):
        """Point 84."""
        chance = random.Random(706)
        found = 0
        for automaton in looking_automata(707, 1):
            trees = all_trees(automaton[0], 5)
            for _ in range(8):
                table = random_table(chance, automaton[0], chance.choice((1, 1, 2, 3)))
                if takes_all_good(automaton, table):
                    found += 1
                    for tree in trees:
                        if is_taken(least_table(automaton), tree):
                            self.shows(run(automaton[0], table, tree)[0], "True")
        self.assertGreater(found, 100)

    def test_no_right_table_has_fewer_states(self):
        """Point 85: against all tables of one and two states."""
        kinds = {1: 0, 2: 0, 3: 0}
        for arities in [(0, 2), (0, 1), (0, 0, 2)]:
            fewer = {many: list(all_tables(arities, many)) for many in (1, 2)}
            for automaton in [one for one in looking_automata(708, 1) + [ONE] + TURNING if one[0] == arities]:
                states = len(stands_for(automaton))
                if not is_enough(automaton) or not any(good(automaton, tree) for tree in all_trees(arities, 5)):
                    continue
                kinds[min(states, 3)] += 1
                for many in range(1, min(states, 3)):
                    for table in fewer[many][:: 1 if arities != (0, 0, 2) else 3]:
                        self.assertFalse(is_right(automaton, table))
        self.assertGreater(min(kinds.values()), 0)

    def test_some_table_is_right_if_and_only_if_the_least_one_is(self):
        """Point 85: against all tables of one and two states."""
        told = 0
        for automaton in [one for one in looking_automata(709, 1) if one[0] in ((0, 2), (0, 1))]:
            for many in (1, 2):
                for table in all_tables(automaton[0], many):
                    if is_right(automaton, table):
                        told += 1
                        self.shows(is_enough(automaton), "True")
        self.assertGreater(told, 20)


def is_taken(table, tree, state=0):
    """Point 50."""
    entry = table[1][state][tree[0]]
    return entry is not None and all(is_taken(table, child, one) for child, one in zip(tree[1:], entry))


def is_right(automaton, table):
    """Point 86, by the states and takers of all trees."""
    return all(automaton[1][state] == (table[0] in takers) for state, takers in taken_by(automaton, table))


def all_tables(arities, many):
    entries = [[None] + list(itertools.product(range(many), repeat=arity)) for arity in arities]
    rows = list(itertools.product(*entries))
    for chosen in itertools.product(rows, repeat=many):
        yield (0, chosen)


class Enough(Case):
    def test_exactly_if_the_least_table_is_right(self):
        """Points 85 and 86."""
        told = {True: 0, False: 0}
        for automaton in looking_automata(710, 2):
            enough = is_enough(automaton)
            self.same(enough, is_right(automaton, least_table(automaton)))
            self.same(enough, is_closed(automaton, 1))
            told[enough] += 1
            table = least_table(automaton)
            if len(table[1]) <= 4 and enough:
                self.assertIsNone(wrong_tree(automaton, table))
            for tree in all_trees(automaton[0], 5):
                taken = is_taken(table, tree)
                self.assertTrue(taken or not good(automaton, tree))
                self.assertTrue(not enough or taken == good(automaton, tree))
        self.assertGreater(min(told.values()), 40)

    def test_looks(self):
        for least, automaton in LOOKS:
            self.same(is_enough(automaton), least == 1)


class WrongArguments(Case):
    def test_each_is_refused_by_its_name(self):
        """Points 8 and 91."""
        for function in (least_table, stands_for, is_enough):
            self.refuses_in_order(function, (MIXED,), [("automaton", helpers.WRONG_AUTOMATA)])

    def test_equal_calls_return_equal_results(self):
        for _ in range(2):
            self.shows(stands_for(ONE), "((2,), (0,), (1,))")
            self.shows(least_table(SWAP), "(0, ((None, None, (1, 1)), ((), (), None)))")
            self.shows(is_enough(SWAP), "False")


if __name__ == "__main__":
    unittest.main()
