"""Exchange: points 60 to 66, 68 to 70, and rootfirst/layers.py and rootfirst/exchange.py."""

import itertools
import random
import unittest

from rootfirst.exchange import accepts_counterexample, counterexample, is_closed
from rootfirst.layers import pairs
from rootfirst.runs import takes
from rootfirst.trees import graft
from tests import helpers
from tests.helpers import (
    BRANCHING, CHAINS, DEEP, DEEP_LIST, LOOKS, ODD, PARITY, SWAP, Case, all_places, all_trees, alike_along, at_place,
    changed, closed_at, couple_rank, couples_of, exchanged, good, looking_automata, nested_tree, pairs_at, path_tops,
    perfect_tree, state, top,
)

MIXED = ((0, 1, 2), (True, False), (0, (1, 0), ((0, 1), (1, 0))))
NO_TREES = ((1, 2), (True, False), ((1, 0), ((0, 1), (1, 0))))


def judged(automaton, depth, value):
    """Point 62, word by word."""
    if type(value) is not tuple or len(value) != 3:
        return False
    base, other, place = value
    if not helpers.is_plain_tree(automaton[0], base) or not helpers.is_plain_tree(automaton[0], other):
        return False
    if not helpers.is_plain_place(place) or at_place(base, place) is None or at_place(other, place) is None:
        return False
    if not good(automaton, base) or not good(automaton, other) or not alike_along(base, other, place, depth):
        return False
    return not good(automaton, exchanged(base, place, at_place(other, place)))


def first_found(automaton, depth, size):
    """Points 62 and 63: the first counterexample of a search through all couples of small trees."""
    trees = [tree for tree in all_trees(automaton[0], size) if good(automaton, tree)]
    found = []
    for base in trees:
        for place in all_places(base):
            tops = path_tops(base, place, depth)
            for other in trees:
                part = at_place(other, place)
                if part is not None and path_tops(other, place, depth) == tops:
                    if not good(automaton, exchanged(base, place, part)):
                        found.append((couple_rank(base, other), place, base, other))
    return min(found)[2:] + (min(found)[1],) if found else None


def search_size(arities):
    return {(0, 2): 9, (2, 0): 9, (0, 0, 2): 5, (0, 1, 2): 6, (1, 2, 0): 6}.get(arities, 4)


class Examples(Case):
    def test_the_interface(self):
        self.shows((is_closed(SWAP, 1), counterexample(SWAP, 1, 3), is_closed(SWAP, 2), counterexample(SWAP, 2, 5)),
                   "(False, ((2, (0,), (1,)), (2, (1,), (0,)), (0,)), True, None)")
        self.shows((len(pairs(SWAP, 0)), pairs(SWAP, 1), pairs(SWAP, 2)),
                   "(16, ((0, 0), (1, 1), (2, 2), (2, 3), (3, 2), (3, 3)), ((0, 0), (1, 1), (2, 2), (3, 3)))")
        value = ((2, (1,), (0,)), (2, (0,), (1,)), (1,))
        self.shows((accepts_counterexample(SWAP, 1, value), accepts_counterexample(SWAP, 2, value)), "(True, False)")

    def test_point_70(self):
        one, other = (2, (0,), (1,)), (2, (1,), (0,))
        self.assertEqual([tree for tree in all_trees(SWAP[0], 7) if takes(SWAP, tree)], [one, other])
        self.shows(graft(SWAP[0], one, other, (0,)), "(2, (1,), (1,))")
        self.shows(takes(SWAP, (2, (1,), (1,))), "False")
        self.shows(accepts_counterexample(SWAP, 1, (one, other, (0,))), "True")
        self.shows([is_closed(SWAP, depth) for depth in range(1, 13)], str([False] + [True] * 11))


class Pairs(Case):
    def test_by_symbols(self):
        """Point 64."""
        for automaton in looking_automata(301, 2):
            for depth in (0, 1, 2, 3, 12):
                self.same(pairs(automaton, depth), tuple(sorted(pairs_at(automaton, depth))))

    def test_by_trees(self):
        """Points 11 and 64: the states of small trees that are equal to the depth, and all of them if they are few."""
        told = {True: 0, False: 0}
        for automaton in looking_automata(302, 1):
            states = {tree: state(automaton, tree) for tree in all_trees(automaton[0], search_size(automaton[0]))}
            for depth in (0, 1, 2, 3):
                by_top = {}
                for tree in states:
                    by_top.setdefault(top(tree, depth), set()).add(states[tree])
                found = {pair for seen in by_top.values() for pair in itertools.product(seen, repeat=2)}
                self.assertLessEqual(found, set(pairs(automaton, depth)))
                told[found == set(pairs(automaton, depth))] += 1
        self.assertGreater(told[True], 4 * told[False])

    def test_all_pairs_of_reached_states_at_the_depth_0(self):
        self.shows(pairs(((0,), (True, False, True, False), (2,)), 0), "((2, 2),)")
        self.shows(pairs(PARITY, 0), "((0, 0), (0, 1), (1, 0), (1, 1))")
        self.shows((pairs(NO_TREES, 0), pairs(NO_TREES, 1), pairs(NO_TREES, 12)), "((), (), ())")
        self.shows(pairs(((0,), (True,), (0,)), 12), "((0, 0),)")

    def test_pairs_are_made_side_by_side(self):
        """The pair of (p, q) and (r, s) is that of p and r, and of q and s; not of p and s."""
        apart = ((0, 0, 0, 2), (True,) * 4, (0, 1, 2, ((0, 3, 0, 0), (3, 1, 0, 0), (0, 0, 3, 0), (0, 0, 0, 3))))
        for depth in range(4):
            self.same(pairs(apart, depth), tuple(sorted(pairs_at(apart, depth))))


class Closed(Case):
    def test_by_triples(self):
        """Points 65 and 66."""
        told = {True: 0, False: 0}
        for automaton in looking_automata(303, 2):
            for depth in (1, 2, 3, 12):
                closed = is_closed(automaton, depth)
                self.same(closed, closed_at(automaton, depth))
                told[closed] += 1
        self.assertGreater(min(told.values()), 100)

    def test_by_a_search_for_counterexamples(self):
        """Points 61 and 68: if there is one, the good trees are not closed; and there mostly is a small one else."""
        told = {True: 0, False: 0}
        for automaton in looking_automata(304, 2):
            for depth in (1, 2, 3):
                found = first_found(automaton, depth, search_size(automaton[0]))
                if is_closed(automaton, depth):
                    self.assertIsNone(found)
                else:
                    told[found is not None] += 1
        self.assertGreater(told[True], 50)

    def test_what_is_closed_stays_closed_at_greater_depths(self):
        """Point 66."""
        for automaton in looking_automata(305, 1):
            closed = [is_closed(automaton, depth) for depth in range(1, 13)]
            self.assertEqual(closed, sorted(closed))

    def test_what_a_judge_from_the_root_takes_is_closed(self):
        """Points 60 and 61: judges whose states are numbers, and that see a number of levels, chosen at random."""
        exchanges = 0
        for depth in (1, 2):
            for seed in range(30):
                told = {}
                chance = random.Random(seed)

                def is_taken(tree, number):
                    seen = (number, top(tree, depth))
                    if seen not in told:
                        told[seen] = None if chance.random() < 0.1 else [chance.randrange(3) for _ in tree[1:]]
                    handed = told[seen]
                    return handed is not None and all(is_taken(*pair) for pair in zip(tree[1:], handed))

                taken = [tree for tree in all_trees((0, 0, 2), 7) if is_taken(tree, 0)][:30]
                for base in taken:
                    for place in all_places(base):
                        tops = path_tops(base, place, depth)
                        for other in taken:
                            part = at_place(other, place)
                            if part is not None and path_tops(other, place, depth) == tops:
                                self.assertTrue(is_taken(exchanged(base, place, part), 0))
                                exchanges += 1
        self.assertGreater(exchanges, 1000)

    def test_closed_good_trees_are_judged_from_the_root(self):
        """Point 61: by a judge whose state is a set of states of the automaton, with so many levels seen."""
        told = {True: 0, False: 0}
        for automaton in looking_automata(306, 2):
            reached = helpers.reached_by_trees(automaton)
            for depth in (1, 2, 3):
                def seen(tree, many):
                    below = [seen(child, many - 1) for child in tree[1:]] if many else []
                    entry = automaton[2][tree[0]]
                    return {helpers.entry_state(entry, chosen) for chosen in itertools.product(*below)} if many else \
                        set(reached)

                def is_taken(tree, goal):
                    if not seen(tree, depth) & goal:
                        return False
                    sides = [seen(child, depth - 1) for child in tree[1:]]
                    for at in range(len(sides)):
                        rows = [set(reached) if at == other else sides[other] for other in range(len(sides))]
                        handed = {chosen[at] for chosen in itertools.product(*rows)
                                  if helpers.entry_state(automaton[2][tree[0]], chosen) in goal}
                        if not is_taken(tree[at + 1], handed):
                            return False
                    return True

                trees = all_trees(automaton[0], search_size(automaton[0]))
                flags = [is_taken(tree, {one for one in reached if automaton[1][one]}) for tree in trees]
                same = flags == [good(automaton, tree) for tree in trees]
                closed = is_closed(automaton, depth)
                self.assertTrue(same or not closed)
                if not closed:
                    told[same] += 1
        self.assertGreater(told[False], 60)

    def test_looks(self):
        for least, automaton in LOOKS:
            self.same([is_closed(automaton, depth) for depth in range(1, 13)],
                      [least is not None and depth >= least for depth in range(1, 13)])
        self.shows([is_closed(CHAINS, depth) for depth in range(1, 13)], str([False] * 12))

    def test_no_trees_1_state_and_4_states(self):
        for depth in (1, 12):
            for automaton in (NO_TREES, ((0, 2), (True,), (0, ((0,),))), ((0, 2), (False,), (0, ((0,),))),
                              ((0, 0, 1), (True, False, True, False), (0, 1, (1, 2, 3, 0)))):
                self.shows((is_closed(automaton, depth), counterexample(automaton, depth, 6)), "(True, None)")


class Counterexamples(Case):
    def test_the_first_one_of_all(self):
        """Point 63, against a search through all small trees."""
        found = {}
        for automaton in looking_automata(307, 2):
            for depth in (1, 2, 3):
                for size in range(1, min(6, search_size(automaton[0])) + 1):
                    told = counterexample(automaton, depth, size)
                    self.same(told, first_found(automaton, depth, size))
                    if told is not None:
                        self.shows(accepts_counterexample(automaton, depth, told), "True")
                        found[(depth, size)] = found.get((depth, size), 0) + 1
        self.assertLessEqual({(1, 3), (1, 4), (1, 5), (1, 6), (2, 6)}, set(found))

    def test_sizes_up_to_6_with_many_symbols(self):
        chance = random.Random(308)
        found = 0
        for arities in BRANCHING:
            for _ in range(4):
                automaton = helpers.random_automaton(chance, arities, 4)
                for depth in (1, 2):
                    told = counterexample(automaton, depth, 6)
                    if told is not None and sum(helpers.nodes(tree) for tree in told[:2]) < 9:
                        self.same(told, first_found(automaton, depth, 6))
                        found += 1
        self.assertGreater(found, 5)

    def test_the_order(self):
        """By the sum of the sizes, the size of the base, the base, the other tree, and the place."""
        every = [(automaton, depth) for _, automaton in LOOKS for depth in (1, 2, 3)]
        for automaton, depth in every:
            trees = [tree for tree in all_trees(automaton[0], 5) if good(automaton, tree)]
            wanted = [(base, other, place) for base, other in couples_of(trees, trees) for place in all_places(base)
                      if judged(automaton, depth, (base, other, place))]
            self.same(counterexample(automaton, depth, 5), (wanted + [None])[0])
        self.shows(counterexample(CHAINS, 2, 5),
                   "((2, (3, (0,)), (3, (1,))), (2, (3, (1,)), (3, (0,))), (0,))")
        # Of the same trees both places tell: the first is taken.
        found = [place for place in [(), (0,), (1,)]
                 if accepts_counterexample(SWAP, 1, ((2, (0,), (1,)), (2, (1,), (0,)), place))]
        self.shows(found, "[(0,), (1,)]")

    def test_a_lesser_base_with_a_greater_other_tree(self):
        """Of two couples with the same sum the one with the smaller base comes first."""
        sizes = set()
        for automaton in looking_automata(309, 1) + [CHAINS]:
            told = counterexample(automaton, 1, 6)
            if told is not None:
                sizes.add((helpers.nodes(told[0]), helpers.nodes(told[1])))
        self.assertTrue(any(one < other for one, other in sizes))

    def test_the_sizes_1_and_6(self):
        for automaton in looking_automata(310, 1):
            self.shows(counterexample(automaton, 1, 1), "None")
        self.same([counterexample(ODD, 1, size) for size in range(1, 7)],
                  [None] * 4 + [((1, (0,), (1, (0,), (0,))), (1, (1, (0,), (0,)), (0,)), (0,))] * 2)
        found = [size for automaton in looking_automata(315, 4) for size in range(2, 7)
                 if counterexample(automaton, 1, size) is not None and counterexample(automaton, 1, size - 1) is None]
        self.assertEqual(sorted(set(found)), [3, 4, 5, 6])

    def test_one_with_greater_trees_only(self):
        """There is none with small trees, though the good trees are not closed."""
        self.shows((is_closed(PARITY, 12), counterexample(PARITY, 12, 6)), "(False, None)")
        self.shows((is_closed(CHAINS, 4), counterexample(CHAINS, 4, 6)), "(False, None)")

    def test_a_graft_can_be_greater_than_the_trees(self):
        told = 0
        for automaton in looking_automata(311, 1):
            for size in (3, 4, 5):
                value = counterexample(automaton, 1, size)
                if value is not None:
                    told += helpers.nodes(exchanged(value[0], value[2], at_place(value[1], value[2]))) > size
        self.assertGreater(told, 0)


class Judge(Case):
    def test_all_small_values(self):
        """Points 1 and 62."""
        told = 0
        for automaton in looking_automata(312, 2):
            trees = all_trees(automaton[0], 4)[:12]
            for base, other in itertools.product(trees, repeat=2):
                for place in [(), (0,), (1,), (0, 0), (0, 1), (1, 0)]:
                    for depth in (1, 2):
                        value = (base, other, place)
                        accepted = accepts_counterexample(automaton, depth, value)
                        self.same(accepted, judged(automaton, depth, value))
                        self.assertFalse(accepted and is_closed(automaton, depth))
                        told += accepted
        self.assertGreater(told, 50)

    def test_one_thing_changed(self):
        for automaton, depth, value in [
            (SWAP, 1, counterexample(SWAP, 1, 6)), (SWAP, 1, ((2, (1,), (0,)), (2, (0,), (1,)), (1,))),
            (ODD, 1, counterexample(ODD, 1, 6)), (CHAINS, 2, counterexample(CHAINS, 2, 6)),
            (ODD, 1, ((1, (1, (0,), (0,)), (0,)), (1, (0,), (1, (0,), (0,))), (1,))),
        ]:
            self.shows(accepts_counterexample(automaton, depth, value), "True")
            for at, other in enumerate([value] + changed(value)):
                with self.subTest(at=at):
                    self.same(accepts_counterexample(automaton, depth, other), judged(automaton, depth, other))

    def test_trees_of_15_and_16_nodes(self):
        def chain(many, leaf):
            return (3, chain(many - 1, leaf)) if many else (leaf,)

        def couple(many, more, place):
            return ((2, chain(many, 0), chain(more, 1)), (2, chain(many, 1), chain(more, 0)), place)

        for many in (1, 4, 6):
            self.shows([accepts_counterexample(CHAINS, depth, couple(many, many, (0,))) for depth in range(1, 13)],
                       str([depth <= many + 1 for depth in range(1, 13)]))
        self.assertEqual([helpers.nodes(couple(6, more, ())[0]) for more in (6, 7)], [15, 16])
        for place in [(0,), (0,) * 7, (1,), (1,) + (0,) * 6]:
            self.shows(accepts_counterexample(CHAINS, 1, couple(6, 6, place)), "True")
            self.shows(accepts_counterexample(CHAINS, 1, couple(6, 7, place)), "False")
            self.shows(accepts_counterexample(CHAINS, 1, couple(7, 6, place)), "False")
        for place in [(), (0,) * 8, (1,) * 7, (0, 1)]:
            self.shows(accepts_counterexample(CHAINS, 1, couple(6, 6, place)), "False")
        self.shows(accepts_counterexample(CHAINS, 1, couple(0, 12, (1,) + (0,) * 12)), "True")

    def test_the_graft_can_have_more_than_15_nodes(self):
        """Good are the trees with an odd number of leaves: two of 7 leaves are put together to one of 12."""
        six = (1, perfect_tree(3, 0, 1), (1, (0,), (0,)))
        value = ((1, (0,), six), (1, six, (0,)), (0,))
        self.assertEqual([helpers.nodes(tree) for tree in value[:2]], [13, 13])
        self.assertEqual(helpers.nodes(exchanged(value[0], (0,), six)), 23)
        self.shows(accepts_counterexample(ODD, 1, value), "True")
        self.shows(accepts_counterexample(ODD, 2, value), "False")
        self.shows(accepts_counterexample(PARITY, 1, value), "False")

    def test_what_is_no_counterexample(self):
        one, other = (2, (0,), (1,)), (2, (1,), (0,))
        self.shows(accepts_counterexample(SWAP, 1, (one, other, (0,))), "True")
        for value in [None, True, 0, "", [], (), [one, other, (0,)], (one, other), (one, other, (0,), ()),
                      (one, other, [0]), (one, other, (False,)), (one, other, ()), (one, other, (2,)),
                      (one, other, (0, 0)), (one, other, 0), (one, other, None), (one, list(other), (0,)),
                      (one, one, (0,)), (one, (2, (1,), (1,)), (0,)), ((2, (1,), (1,)), one, (0,)),
                      (one, (2, (True,), (0,)), (0,)), (one, (1,), ()), ((0,), (1,), ()), (one, None, (0,)),
                      (nested_tree(20), other, (0,)), (one, perfect_tree(5), (0,)), DEEP, DEEP_LIST,
                      (DEEP, other, (0,)),
                      (one, DEEP, (0,)), (one, other, DEEP), (one, other, DEEP_LIST), (one, other, (DEEP,)),
                      (one, other, (0,) * 100000), (one, other, (0,)) * 50000]:
            self.shows(accepts_counterexample(SWAP, 1, value), "False")


class WrongArguments(Case):
    AUTOMATON = ("automaton", helpers.WRONG_AUTOMATA)
    DEPTH = ("depth", helpers.wrong_integers(1, 12))

    def test_each_is_refused_by_its_name_and_the_first_of_several(self):
        """Points 8 and 69."""
        self.refuses_in_order(pairs, (MIXED, 0), [self.AUTOMATON, ("depth", helpers.wrong_integers(0, 12))])
        self.refuses_in_order(is_closed, (MIXED, 1), [self.AUTOMATON, self.DEPTH])
        self.refuses_in_order(counterexample, (MIXED, 1, 6), [
            self.AUTOMATON, self.DEPTH, ("size", helpers.wrong_integers(1, 6))])
        self.refuses_in_order(accepts_counterexample, (MIXED, 12, ()), [self.AUTOMATON, self.DEPTH])

    def test_the_bounds(self):
        for depth in range(13):
            self.shows(pairs(((0,), (True,), (0,)), depth), "((0, 0),)")
        for depth in range(1, 13):
            self.shows(is_closed(MIXED, depth), "False")
            self.shows(accepts_counterexample(MIXED, depth, None), "False")
        for size in range(1, 7):
            self.shows(counterexample(MIXED, 12, size), "None")

    def test_arguments_ahead_of_any_value(self):
        self.bad("automaton", accepts_counterexample, None, None, None)
        self.bad("depth", accepts_counterexample, SWAP, 0, DEEP)

    def test_arguments_stay_and_equal_calls_return_equal_results(self):
        value = [[2, [0], [1]], [2, [1], [0]], [0]]
        for _ in range(2):
            self.shows(accepts_counterexample(SWAP, 1, value), "False")
            self.shows(counterexample(SWAP, 1, 6), "((2, (0,), (1,)), (2, (1,), (0,)), (0,))")
            self.shows(pairs(SWAP, 2), "((0, 0), (1, 1), (2, 2), (3, 3))")
        self.assertEqual(value, [[2, [0], [1]], [2, [1], [0]], [0]])


if __name__ == "__main__":
    unittest.main()
