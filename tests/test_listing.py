"""The good trees, counted and listed: points 29 to 32, 37 and 38, and rootfirst/listing.py."""

import unittest

from rootfirst.listing import count_good, count_state, first_tree, good_from, index_of_good, nth_good
from rootfirst.trees import is_before
from tests import helpers
from tests.helpers import Case, all_trees, good, many_automata, nodes, state

EVEN = ((0, 0, 2), (True, False, False), (0, 1, ((0, 1, 2), (1, 0, 2), (2, 2, 2))))
FULL = ((0, 2), (False, False, False, True), (0, ((1, 0, 0, 0), (0, 2, 0, 0), (0, 0, 3, 0), (0, 0, 0, 0))))
MIXED = ((0, 1, 2), (False, True, False), (1, (2, 0, 1), ((0, 1, 2), (2, 2, 0), (1, 0, 0))))
WIDE = ((0, 0, 1, 2), (True, False, True, False), (
    3, 1, (2, 3, 0, 1), ((0, 1, 2, 3), (3, 2, 1, 0), (1, 1, 3, 0), (2, 0, 0, 1))))
TWO = ((0, 1), (False, True, False), (0, (1, 2, 2)))
NO_LEAF = ((1, 2), (True, False), ((1, 0), ((0, 1), (1, 0))))


def trees_of(automaton):
    """All trees, as far as there are few enough of them, and up to what size they go."""
    most = {(0,): 15, (0, 1): 15, (1, 0): 15, (0, 2): 15, (2, 0): 15, (0, 1, 1): 9, (0, 1, 2): 8, (1, 2, 0): 8}
    size = most.get(automaton[0], 5)
    return all_trees(automaton[0], size), size


class Examples(Case):
    def test_the_interface(self):
        self.shows(([count_good(EVEN, size) for size in (1, 2, 3, 5)], count_state(EVEN, 1, 3),
                    first_tree(EVEN, 2) is None), "([1, 0, 2, 8], 2, True)")
        self.shows((good_from(EVEN, 0, 3), index_of_good(EVEN, (2, (1,), (1,))), index_of_good(EVEN, (1,)) is None),
                   "([(0,), (2, (0,), (0,)), (2, (1,), (1,))], 2, True)")
        self.shows(nth_good(EVEN, 3), "(2, (0,), (2, (0,), (0,)))")
        self.shows((nth_good(TWO, 0), nth_good(TWO, 1)), "((1, (0,)), None)")

    def test_point_38(self):
        self.shows(good_from(EVEN, 0, 4)[:3], "[(0,), (2, (0,), (0,)), (2, (1,), (1,))]")


class Counts(Case):
    def test_counts_by_listing_all_trees(self):
        """Points 31 and 32."""
        for automaton in many_automata(11, 1) + [EVEN, MIXED, WIDE, FULL]:
            trees, most = trees_of(automaton)
            told = {}
            for tree in trees:
                key = (nodes(tree), state(automaton, tree))
                told[key] = told.get(key, 0) + 1
            for size in range(1, most + 1):
                row = [told.get((size, number), 0) for number in range(len(automaton[1]))]
                self.same([count_state(automaton, number, size) for number in range(len(row))], row)
                self.same(count_good(automaton, size), sum(n for n, flag in zip(row, automaton[1]) if flag))

    def test_counts_of_large_trees(self):
        """With one state, all trees are counted."""
        catalan, motzkin = 429, 113634
        self.shows(count_good(((0, 2), (True,), (0, ((0,),))), 15), str(catalan))
        self.shows(count_good(((0, 2), (True,), (0, ((0,),))), 14), "0")
        self.shows(count_good(((0, 0, 2), (True,), (0, 0, ((0,),))), 15), str(catalan * 2 ** 8))
        self.shows(count_good(((0, 0, 2, 2), (True,), (0, 0, ((0,),), ((0,),))), 15), str(catalan * 2 ** 15))
        self.shows(count_good(((0, 1, 2), (True,), (0, (0,), ((0,),))), 15), str(motzkin))
        self.shows(count_state(((0, 1, 1), (True,), (0, (0,), (0,))), 0, 15), str(2 ** 14))
        self.shows(count_good(((0, 1, 2), (False,), (0, (0,), ((0,),))), 15), "0")
        self.shows(count_state(FULL, 3, 15), "1")

    def test_counts_of_leaves(self):
        four = ((0, 0, 0, 0), (True, False, True, False), (2, 2, 1, 0))
        self.shows([count_state(four, number, 1) for number in range(4)], "[1, 1, 2, 0]")
        self.shows([count_state(four, number, 2) for number in range(4)], "[0, 0, 0, 0]")
        self.shows((count_good(four, 1), count_good(four, 15)), "(3, 0)")

    def test_a_state_and_the_size_in_both_children(self):
        """The sum goes over all sizes and states of both children."""
        first = ((0, 0, 2), (True, False), (0, 1, ((0, 0), (1, 1))))
        self.shows([count_state(first, 0, size) for size in (1, 3, 5, 7)], "[1, 2, 8, 40]")
        self.shows([count_state(first, 1, size) for size in (1, 3, 5, 7)], "[1, 2, 8, 40]")

    def test_no_trees(self):
        for size in range(1, 16):
            self.shows((count_good(NO_LEAF, size), count_state(NO_LEAF, 1, size)), "(0, 0)")


class FirstTrees(Case):
    def test_the_first_one_of_all(self):
        """Point 30."""
        for automaton in many_automata(12, 3) + [EVEN, MIXED, WIDE, FULL]:
            trees, most = trees_of(automaton)
            found = {}
            for tree in trees:
                found.setdefault(state(automaton, tree), tree)
            reached = helpers.reached_by_trees(automaton)
            for number in range(len(automaton[1])):
                told = first_tree(automaton, number)
                if number in found:
                    self.same(told, found[number])
                elif number in reached:
                    self.assertTrue(most < nodes(told) <= 15)
                    self.assertEqual(state(automaton, told), number)
                else:
                    self.assertIsNone(told)

    def test_one_of_15_nodes(self):
        self.same(first_tree(FULL, 3), helpers.perfect_tree(4, symbol=1))
        self.shows(first_tree(FULL, 0), "(0,)")

    def test_no_trees(self):
        self.shows((first_tree(NO_LEAF, 0), first_tree(NO_LEAF, 1)), "(None, None)")

    def test_the_size_counts_before_the_symbols(self):
        late = ((1, 0, 0), (True, False), ((1, 0), 1, 0))
        self.shows((first_tree(late, 0), first_tree(late, 1)), "((2,), (1,))")
        self.shows(first_tree(((0, 1, 1), (True, False), (0, (1, 1), (1, 1))), 1), "(1, (0,))")

    def test_of_two_children_the_less_symbols_first(self):
        """(2, (0,), (1, (0,))) comes before (2, (1, (0,)), (0,)), which has the state as well."""
        either = ((0, 1, 2), (True, False, False), (0, (1, 0, 0), ((0, 2, 0), (2, 0, 0), (0, 0, 0))))
        self.shows(first_tree(either, 2), "(2, (0,), (1, (0,)))")


class Listed(Case):
    def test_all_good_trees_in_order(self):
        """Point 29, by listing all trees."""
        for automaton in many_automata(13, 1) + [EVEN, MIXED, WIDE, FULL, TWO]:
            trees, most = trees_of(automaton)
            wanted = [tree for tree in trees if good(automaton, tree)]
            for index in list(range(25)) + list(range(25, len(wanted), 37)):
                told = nth_good(automaton, index)
                if index < len(wanted):
                    self.same(told, wanted[index])
                elif most == 15:
                    self.assertIsNone(told)
                else:
                    self.assertTrue(told is None or nodes(told) > most)
            for many in (0, 1, 7, 20):
                for index in (0, 1, 5, max(0, len(wanted) - 20)):
                    told = good_from(automaton, index, many)
                    self.assertIs(type(told), list)
                    if index + many <= len(wanted) or most == 15:
                        self.same(told, wanted[index:index + many])
            for tree in trees[::5]:
                index = wanted.index(tree) if tree in wanted else None
                self.same(index_of_good(automaton, tree), index)

    def test_the_number_of_each_listed_tree(self):
        for automaton in (WIDE, MIXED, EVEN, ((0, 0, 2, 2), (True, True, False), (0, 1, EVEN[2][2], MIXED[2][2]))):
            before = 0
            for size in range(1, 16):
                many = count_good(automaton, size)
                for index in sorted({before, before + many // 3, before + many // 2, before + many - 1}):
                    if before <= index < before + many:
                        tree = nth_good(automaton, index)
                        self.assertEqual(nodes(tree), size)
                        self.assertTrue(good(automaton, tree))
                        self.same(index_of_good(automaton, tree), index)
                before += many
            self.shows(nth_good(automaton, before), "None")
            self.assertEqual(len(good_from(automaton, before - 3, 20)), 3)
            self.shows(good_from(automaton, before, 20), "[]")

    def test_neighbours_are_in_order(self):
        for start in (0, 17, 2000, 300000, 1500000):
            told = good_from(WIDE, start, 20)
            self.assertEqual(len(told), 20)
            for number in range(19):
                self.assertTrue(is_before(WIDE[0], told[number], told[number + 1]))
            self.same([index_of_good(WIDE, tree) for tree in told], list(range(start, start + 20)))
            self.same([nth_good(WIDE, start + number) for number in range(20)], told)

    def test_trees_of_the_same_size_with_children_of_other_sizes(self):
        """The symbols count, not the size of the first child."""
        every = ((2, 0), (True,), (((0,),), 0))
        self.shows(good_from(every, 2, 2), "[(0, (0, (1,), (1,)), (1,)), (0, (1,), (0, (1,), (1,)))]")
        every = ((0, 2), (True,), (0, ((0,),)))
        self.shows(good_from(every, 2, 2), "[(1, (0,), (1, (0,), (0,))), (1, (1, (0,), (0,)), (0,))]")

    def test_the_greatest_index_and_numbers(self):
        self.shows(nth_good(EVEN, 1000000000), "None")
        self.shows(good_from(EVEN, 1000000000, 20), "[]")
        self.shows(good_from(EVEN, 0, 0), "[]")
        self.assertEqual(len(good_from(EVEN, 0, 20)), 20)
        self.assertEqual(len(good_from(((0,) * 4, (True,), (0,) * 4), 1, 20)), 3)
        self.shows(good_from(((0,), (True,), (0,)), 0, 20), "[(0,)]")

    def test_trees_of_1_and_15_nodes(self):
        chain = ((0, 1), (True, False), (0, (1, 0)))
        self.shows(index_of_good(chain, (0,)), "0")
        self.shows(index_of_good(chain, helpers.nested_tree(14)), "7")
        self.same(nth_good(chain, 7), helpers.nested_tree(14))
        self.shows(nth_good(chain, 8), "None")
        self.same(good_from(FULL, 0, 20), [helpers.perfect_tree(4, symbol=1)])
        self.shows(index_of_good(FULL, helpers.perfect_tree(4, symbol=1)), "0")

    def test_no_good_trees(self):
        none = ((0, 0, 2), (False, False, False), EVEN[2])
        for automaton in (none, NO_LEAF):
            self.shows((nth_good(automaton, 0), good_from(automaton, 0, 20)), "(None, [])")
        self.shows(index_of_good(none, (0,)), "None")


class WrongArguments(Case):
    def test_each_is_refused_by_its_name_and_the_first_of_several(self):
        """Points 8 and 37."""
        number = ("state", helpers.wrong_integers(0, 2))
        size = ("size", helpers.wrong_integers(1, 15))
        index = ("index", helpers.wrong_integers(0, 1000000000))
        for function, rights, wrongs in [
            (first_tree, (MIXED, 0), [number]),
            (count_state, (MIXED, 0, 1), [number, size]),
            (count_good, (MIXED, 1), [size]),
            (nth_good, (MIXED, 0), [index]),
            (index_of_good, (MIXED, (0,)), [("tree", helpers.WRONG_TREES)]),
            (good_from, (MIXED, 0, 1), [index, ("many", helpers.wrong_integers(0, 20))]),
        ]:
            self.refuses_in_order(function, rights, [("automaton", helpers.WRONG_AUTOMATA)] + wrongs)

    def test_states_of_automata_of_1_and_4_states(self):
        one = ((0,), (True,), (0,))
        self.shows(first_tree(one, 0), "(0,)")
        self.bad("state", first_tree, one, 1)
        self.shows(count_state(WIDE, 3, 1), "1")
        self.bad("state", count_state, WIDE, 4, 1)

    def test_no_tree_without_a_leaf(self):
        self.bad("tree", index_of_good, NO_LEAF, (0,))

    def test_returned_lists_are_new(self):
        """Point 2."""
        told = good_from(EVEN, 0, 3)
        told.append(1)
        told[0] = None
        self.shows(good_from(EVEN, 0, 3), "[(0,), (2, (0,), (0,)), (2, (1,), (1,))]")

    def test_arguments_stay(self):
        tree = [2, (0,), (0,)]
        self.bad("tree", index_of_good, EVEN, tree)
        self.assertEqual(tree, [2, (0,), (0,)])


if __name__ == "__main__":
    unittest.main()
