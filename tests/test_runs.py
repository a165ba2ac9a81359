"""Automata and runs: points 19 to 24, 26 to 28, and rootfirst/runs.py."""

import itertools
import unittest

from rootfirst.runs import accepts_run, fitting, is_automaton, reached, run, takes, tree_state
from tests import helpers
from tests.helpers import Case, all_places, all_trees, at_place, closed, exchanged, good, many_automata, state

EVEN = ((0, 0, 2), (True, False, False), (0, 1, ((0, 1, 2), (1, 0, 2), (2, 2, 2))))
MIXED = ((0, 1, 2), (False, True, False), (1, (2, 0, 1), ((0, 1, 2), (2, 2, 0), (1, 0, 0))))
CHAIN = ((0, 1, 0), (True, False), (0, (1, 0), 1))
# The state 3 needs all the 15 nodes.
FULL = ((0, 2), (False, False, False, True), (0, ((1, 0, 0, 0), (0, 2, 0, 0), (0, 0, 3, 0), (0, 0, 0, 0))))


class Examples(Case):
    def test_the_interface(self):
        self.shows((is_automaton(EVEN), tree_state(EVEN, (2, (1,), (0,))), takes(EVEN, (2, (1,), (1,))),
                    reached(EVEN)), "(True, 1, True, (0, 1))")
        self.shows((run(EVEN, (2, (1,), (0,))), accepts_run(EVEN, (1,), (((), 1),))),
                   "((((), 1), ((0,), 1), ((1,), 0)), True)")
        self.shows((fitting(EVEN, (2, (1,), (0,)), (1,)), fitting(EVEN, (2, (1,), (0,)), ())), "((1,), (0,))")

    def test_point_28(self):
        for tree in all_trees((0, 0, 2), 7):
            self.same(takes(EVEN, tree), helpers.symbols(tree).count(1) % 2 == 0)


class Automata(Case):
    def test_right_ones(self):
        """Point 19, with 1 and 4 states, 1 and 4 symbols, and without a leaf."""
        self.shows(is_automaton(((0,), (True,), (0,))), "True")
        self.shows(is_automaton(((2,), (False,), (((0,),),))), "True")
        self.shows(is_automaton(((1, 1, 1, 1), (False,), ((0,),) * 4)), "True")
        self.shows(is_automaton(((0, 0, 1, 2), (True,) * 4, (0, 3, (3, 2, 1, 0), ((0, 1, 2, 3),) * 4))), "True")
        for automaton in many_automata(1, 2):
            self.shows(is_automaton(automaton), "True")

    def test_wrong_ones(self):
        for number, value in enumerate(helpers.WRONG_AUTOMATA):
            with self.subTest(number=number):
                self.shows(is_automaton(value), "False")

    def test_each_item_of_a_right_one_is_looked_at(self):
        """A right automaton with one integer or flag changed into another value is none."""
        arities, flags, steps = MIXED
        for wrong in (None, True, -1, 3, "0", (0,), [0], helpers.DEEP):
            self.shows(is_automaton((arities, flags, (wrong, steps[1], steps[2]))), "False")
            for at in range(3):
                self.shows(is_automaton((arities, flags, (1, steps[1][:at] + (wrong,) + steps[1][at + 1:], steps[2]))),
                           "False")
                for number in range(3):
                    row = steps[2][at][:number] + (wrong,) + steps[2][at][number + 1:]
                    rows = steps[2][:at] + (row,) + steps[2][at + 1:]
                    self.shows(is_automaton((arities, flags, (1, steps[1], rows))), "False")
        for wrong in (None, 0, 1, "True", (), helpers.DEEP):
            for at in range(3):
                self.shows(is_automaton((arities, flags[:at] + (wrong,) + flags[at + 1:], steps)), "False")

    def test_great_automata_with_more_than_4_states_are_none(self):
        self.shows(is_automaton(((0, 1), (True,) * 4, (0, (1, 2, 3, 0)))), "True")
        self.shows(is_automaton(((0, 1), (True,) * 5, (0, (1, 2, 3, 4, 0)))), "False")


class States(Case):
    def test_states_of_small_trees(self):
        """Point 20."""
        for automaton in many_automata(2, 2) + [EVEN, MIXED]:
            for tree in all_trees(automaton[0], 5):
                self.same(tree_state(automaton, tree), state(automaton, tree))
                self.same(takes(automaton, tree), good(automaton, tree))

    def test_the_first_child_is_looked_up_first(self):
        first = ((0, 0, 2), (True, False), (0, 1, ((0, 0), (1, 1))))
        self.shows(tree_state(first, (2, (0,), (1,))), "0")
        self.shows(tree_state(first, (2, (1,), (0,))), "1")

    def test_trees_of_1_and_15_nodes(self):
        self.shows(tree_state(CHAIN, (2,)), "1")
        self.shows(tree_state(CHAIN, helpers.nested_tree(14)), "0")
        self.shows(tree_state(FULL, helpers.perfect_tree(4, symbol=1)), "3")
        self.shows(takes(FULL, helpers.perfect_tree(4, symbol=1)), "True")

    def test_exchanged_flags_and_renumbered_states(self):
        """Point 26."""
        for automaton in many_automata(3, 1):
            arities, flags, steps = automaton
            many = len(flags)
            turned = (arities, tuple([not flag for flag in flags]), steps)
            for order in list(itertools.permutations(range(many)))[-2:]:
                other = renumbered(automaton, order)
                for tree in all_trees(arities, 4):
                    self.same(takes(turned, tree), not takes(automaton, tree))
                    self.same(takes(other, tree), takes(automaton, tree))
                    wanted = tuple([(place, order[told]) for place, told in run(automaton, tree)])
                    self.same(run(other, tree), wanted)


def renumbered(automaton, order):
    """The automaton with the state k called order[k]."""
    arities, flags, steps = automaton
    back = [order.index(number) for number in range(len(flags))]

    def entry(arity, told):
        if arity == 0:
            return order[told]
        return tuple([entry(arity - 1, told[back[number]]) for number in range(len(flags))])

    return (arities, tuple([flags[at] for at in back]), tuple([entry(a, told) for a, told in zip(arities, steps)]))


class Runs(Case):
    def test_runs_of_small_trees(self):
        """Point 21: all places in order, each with the state of the part there."""
        for automaton in many_automata(4, 1) + [EVEN, MIXED]:
            for tree in all_trees(automaton[0], 5):
                wanted = tuple([(place, state(automaton, at_place(tree, place))) for place in all_places(tree)])
                self.same(run(automaton, tree), wanted)
                self.shows(accepts_run(automaton, tree, wanted), "True")

    def test_a_long_run(self):
        tree = helpers.nested_tree(14)
        wanted = tuple([((0,) * many, many % 2) for many in range(15)])
        self.same(run(CHAIN, tree), wanted)
        self.shows(accepts_run(CHAIN, tree, wanted), "True")
        self.shows(accepts_run(CHAIN, tree, wanted + (((0,) * 15, 1),)), "False")
        self.shows(accepts_run(CHAIN, tree, wanted[:-1]), "False")

    def test_what_is_no_run(self):
        tree = (2, (0,), (1, (0,)))
        told = run(MIXED, tree)
        values = [None, True, 0, 1, "", "run", (), [], list(told), told[:-1], told[1:], told + told[-1:], told[::-1],
                  told[:1] + told, ((), told), (told,), helpers.DEEP, helpers.DEEP_LIST, (helpers.DEEP,) * 4]
        for at, (place, number) in enumerate(told):
            for other in range(-1, 5):
                if other != number:
                    values.append(told[:at] + ((place, other),) + told[at + 1:])
            for pair in [None, (), (place,), (place, number, 0), [place, number], (list(place), number),
                         (place, bool(number)), (place, None), (place, str(number)), (place, (number,)),
                         (place + (0,), number), (place + (1,), number), (None, number), (number, place),
                         (helpers.DEEP, number), (place, helpers.DEEP), helpers.DEEP, helpers.DEEP_LIST]:
                values.append(told[:at] + (pair,) + told[at + 1:])
        for number, value in enumerate(values):
            with self.subTest(number=number):
                self.shows(accepts_run(MIXED, tree, value), "False")
        self.shows(accepts_run(MIXED, tree, told), "True")

    def test_true_is_not_1_in_places_and_states(self):
        self.shows(accepts_run(EVEN, (1,), (((), True),)), "False")
        self.shows(accepts_run(EVEN, (0,), (((), False),)), "False")
        self.shows(accepts_run(EVEN, (2, (1,), (0,)), (((), 1), ((False,), 1), ((1,), 0))), "False")
        self.shows(accepts_run(EVEN, (2, (1,), (0,)), (((), 1), ((0,), 1), ((True,), 0))), "False")

    def test_each_tuple_of_places_and_states_but_one_is_refused(self):
        """Point 21, all runs that could be written for a tree of three nodes."""
        tree = (2, (1,), (0,))
        for numbers in itertools.product(range(3), repeat=3):
            value = tuple(zip([(), (0,), (1,)], numbers))
            self.shows(accepts_run(EVEN, tree, value), repr(numbers == (1, 1, 0)))


class Replacing(Case):
    def test_states_of_other_parts_stay(self):
        """Point 22."""
        for automaton in (EVEN, MIXED):
            trees = all_trees(automaton[0], 3)
            for tree in all_trees(automaton[0], 5):
                for place in all_places(tree):
                    for other in trees:
                        before = dict(run(automaton, tree))
                        behind = dict(run(automaton, exchanged(tree, place, other)))
                        alike = tree_state(automaton, other) == before[place]
                        for at in before:
                            if at[:len(place)] != place and (alike or place[:len(at)] != at):
                                self.assertEqual(before[at], behind[at])

    def test_fitting_by_all_trees_of_each_state(self):
        """Point 23."""
        for automaton in many_automata(5, 2) + [EVEN, MIXED]:
            trees = all_trees(automaton[0], 6)
            found = {}
            for tree in trees:
                found.setdefault(state(automaton, tree), tree)
            if tuple(sorted(found)) != helpers.reached_by_trees(automaton):
                continue
            for tree in trees[:30]:
                for place in all_places(tree):
                    wanted = [told for told in sorted(found) if good(automaton, exchanged(tree, place, found[told]))]
                    told = fitting(automaton, tree, place)
                    self.same(told, tuple(wanted))
                    self.assertEqual(state(automaton, at_place(tree, place)) in told, good(automaton, tree))

    def test_a_state_that_no_tree_has_does_not_fit(self):
        all_good = ((0, 0, 2), (True, True, True), EVEN[2])
        self.shows(fitting(all_good, (0,), ()), "(0, 1)")
        self.shows(fitting(all_good, (2, (0,), (0,)), (1,)), "(0, 1)")

    def test_fitting_at_a_place_with_14_numbers(self):
        self.shows(fitting(CHAIN, helpers.nested_tree(14), (0,) * 14), "(0,)")
        self.shows(fitting(CHAIN, helpers.nested_tree(13), (0,) * 13), "(1,)")
        self.shows(fitting(((0,), (False,), (0,)), (0,), ()), "()")

    def test_a_state_whose_trees_are_too_large_there_fits(self):
        """Trees of whatever size count: with the state 3 at the place the whole has 17 nodes."""
        above = (FULL[0], FULL[1], (0, ((1, 0, 0, 3), (0, 2, 0, 0), (0, 0, 3, 0), (0, 0, 0, 0))))
        self.shows(fitting(above, (1, (0,), (0,)), (1,)), "(3,)")
        self.shows(fitting(above, (1, (0,), (0,)), (0,)), "()")


class Reached(Case):
    def test_reached_states(self):
        """Point 24."""
        for automaton in many_automata(6, 4):
            self.same(reached(automaton), helpers.reached_by_trees(automaton))

    def test_the_least_closed_set(self):
        for automaton in many_automata(7, 1):
            told = reached(automaton)
            sets = [chosen for chosen in all_subsets(len(automaton[1])) if closed(automaton, chosen)]
            self.assertIn(told, sets)
            for chosen in sets:
                self.assertTrue(set(told) <= set(chosen))

    def test_a_state_that_needs_15_nodes(self):
        self.shows(reached(FULL), "(0, 1, 2, 3)")

    def test_no_trees(self):
        self.shows(reached(((1,), (True, False), ((1, 0),))), "()")
        self.shows(reached(((2, 1), (True,), (((0,),), (0,)))), "()")

    def test_in_ascending_order(self):
        self.shows(reached(((0, 1), (True,) * 4, (3, (0, 0, 1, 2)))), "(0, 1, 2, 3)")
        self.shows(reached(((0, 1), (True,) * 4, (3, (2, 1, 0, 2)))), "(0, 2, 3)")


def all_subsets(many):
    return [chosen for size in range(many + 1) for chosen in itertools.combinations(range(many), size)]


class WrongArguments(Case):
    AUTOMATON = ("automaton", helpers.WRONG_AUTOMATA)
    TREE = ("tree", helpers.WRONG_TREES)

    def test_each_is_refused_by_its_name_and_the_first_of_several(self):
        """Points 8 and 27."""
        tree = (2, (0,), (0,))
        place = ("place", helpers.WRONG_PLACES + [(0, 0), (1, 0), (0,) * 14])
        for function, rights, wrongs in [
            (tree_state, (MIXED, tree), [self.TREE]),
            (takes, (MIXED, tree), [self.TREE]),
            (run, (MIXED, tree), [self.TREE]),
            (accepts_run, (MIXED, tree, ()), [self.TREE]),
            (fitting, (MIXED, tree, (0,)), [self.TREE, place]),
            (reached, (MIXED,), []),
        ]:
            self.refuses_in_order(function, rights, [self.AUTOMATON] + wrongs)

    def test_a_place_that_only_the_second_child_would_have(self):
        self.bad("place", fitting, CHAIN, (1, (0,)), (1,))
        self.bad("place", fitting, CHAIN, helpers.nested_tree(13), (0,) * 14)

    def test_without_a_leaf_no_value_is_a_tree(self):
        bare = ((1, 2), (True,), ((0,), ((0,),)))
        for function in (tree_state, takes, run):
            self.bad("tree", function, bare, (0,))
        self.bad("tree", fitting, bare, (0,), ())
        self.bad("tree", accepts_run, bare, (0,), ())

    def test_the_judge_refuses_arguments_ahead_of_any_value(self):
        self.bad("automaton", accepts_run, None, None, None)
        self.bad("tree", accepts_run, MIXED, (0, (0,)), helpers.DEEP)

    def test_arguments_stay(self):
        value = [((), 1)]
        self.shows(accepts_run(EVEN, (1,), value), "False")
        self.assertEqual(value, [((), 1)])
        automaton = [(0,), (True,), (0,)]
        self.bad("automaton", reached, automaton)
        self.assertEqual(automaton, [(0,), (True,), (0,)])

    def test_equal_calls_return_equal_results(self):
        tree = (2, (0,), (1, (0,)))
        for _ in range(2):
            self.shows(run(MIXED, tree), repr(run(MIXED, tree)))
            self.shows(fitting(MIXED, tree, (1,)), repr(fitting(MIXED, tree, (1,))))


if __name__ == "__main__":
    unittest.main()
