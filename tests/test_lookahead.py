"""Look-ahead: points 71 to 75, 80 to 82, and rootfirst/lookahead.py."""

import itertools
import random
import unittest

from rootfirst.comparing import both, minimal
from rootfirst.exchange import is_closed
from rootfirst.layers import pairs
from rootfirst.lookahead import accepts_pair, look_ahead, pair_trees, stable_depth
from rootfirst.totals import total_good
from tests import helpers
from tests.helpers import (
    BRANCHING, CHAINS, DEEP, DEEP_LIST, LOOKS, ODD, PARITY, SWAP, Case, all_trees, alike, changed, couple_rank, good,
    least_look, levels, looking_automata, nested_tree, pairs_at, perfect_tree, random_automaton, reached_by_trees,
    state, top,
)

MIXED = ((0, 1, 2), (True, False), (0, (1, 0), ((0, 1), (1, 0))))
NO_TREES = ((1, 2), (True, False), ((1, 0), ((0, 1), (1, 0))))


def first_pair(automaton, depth, first, second, size):
    """Point 75: the first two trees of a search through all couples of small trees."""
    trees = all_trees(automaton[0], size)
    ones = [tree for tree in trees if state(automaton, tree) == first]
    others = [tree for tree in trees if state(automaton, tree) == second]
    found = [(couple_rank(one, other), one, other) for one in ones for other in others
             if top(one, depth) == top(other, depth)]
    return min(found)[1:] if found else None


def judged(automaton, depth, first, second, value):
    """Point 75, word by word."""
    if type(value) is not tuple or len(value) != 2:
        return False
    if not all(helpers.is_plain_tree(automaton[0], tree) for tree in value):
        return False
    return [state(automaton, tree) for tree in value] == [first, second] and alike(*value, depth)


class Examples(Case):
    def test_the_interface(self):
        self.shows((stable_depth(SWAP), look_ahead(SWAP)), "(2, 2)")
        self.shows((pair_trees(SWAP, 1, 2, 3, 3), pair_trees(SWAP, 2, 2, 3, 5) is None),
                   "(((2, (0,), (1,)), (2, (0,), (0,))), True)")
        value = ((2, (1,), (0,)), (2, (1,), (1,)))
        self.shows((accepts_pair(SWAP, 1, 2, 3, value), accepts_pair(SWAP, 2, 2, 3, value)), "(True, False)")
        self.shows((stable_depth(PARITY), look_ahead(PARITY)), "(0, None)")

    def test_point_82(self):
        """With chains above the leaves these are told apart below any number of levels."""
        self.shows((stable_depth(SWAP), look_ahead(SWAP)), "(2, 2)")
        self.shows(look_ahead(CHAINS), "None")
        for depth in range(1, 13):
            self.shows(is_closed(CHAINS, depth), "False")


class Stable(Case):
    def test_the_least_depth_from_which_on_the_pairs_stay(self):
        """Point 71."""
        depths = set()
        for automaton in looking_automata(501, 2):
            layers = [pairs_at(automaton, depth) for depth in range(8)]
            for depth in range(7):
                self.assertLessEqual(layers[depth + 1], layers[depth])
                if depth and layers[depth] == layers[depth - 1]:
                    self.assertEqual(layers[depth + 1], layers[depth])
            self.assertEqual(layers[6], layers[7])
            told = stable_depth(automaton)
            self.same(told, [depth for depth in range(8) if layers[depth] == layers[7]][0])
            self.assertLessEqual(told, len(layers[0]))
            self.assertEqual(pairs(automaton, told), pairs(automaton, 12))
            depths.add(told)
        self.assertLessEqual({0, 1, 2, 3}, depths)

    def test_pairs_are_symmetric(self):
        """Point 72."""
        for automaton in looking_automata(502, 1):
            for depth in (0, 1, 2, 5):
                found = pairs(automaton, depth)
                self.assertTrue(all((other, one) in found for one, other in found))
                self.assertEqual(tuple([one for one, other in found if one == other]), reached_by_trees(automaton))

    def test_1_and_4_states_and_no_trees(self):
        self.shows([stable_depth(((0,), (True,), (0,))), stable_depth(NO_TREES)], "[0, 0]")
        four = ((0, 1), (True, False, False, False), (0, (1, 2, 3, 3)))
        self.shows([stable_depth(four), stable_depth(((0, 1), four[1], (0, (1, 2, 3, 0))))], "[3, 0]")


class Least(Case):
    def test_the_least_depth_at_which_the_good_trees_are_closed(self):
        """Point 73."""
        for automaton in looking_automata(503, 1):
            told = look_ahead(automaton)
            self.same(told, least_look(automaton))
            closed = [depth for depth in range(1, 13) if is_closed(automaton, depth)]
            self.same(told, (closed + [None])[0])
            if told is not None:
                self.assertLessEqual(told, stable_depth(automaton) + 1)

    def test_looks(self):
        for least, automaton in LOOKS:
            self.same(look_ahead(automaton), least)
        # One more than the stable depth.
        self.assertIn((4, 3), [(look_ahead(automaton), stable_depth(automaton)) for _, automaton in LOOKS])

    def test_it_depends_on_the_good_trees_alone(self):
        """Point 73: renumbered, with all states apart, and with as few as can be."""
        chance = random.Random(504)
        for automaton in looking_automata(505, 1):
            told = look_ahead(automaton)
            self.same(look_ahead(minimal(automaton)), told)
            many = len(automaton[1])
            order = chance.sample(range(many), many)

            def turned(arity, entry):
                if arity == 0:
                    return order[entry]
                return tuple([turned(arity - 1, entry[order.index(one)]) for one in range(many)])

            steps = tuple([turned(arity, entry) for arity, entry in zip(automaton[0], automaton[2])])
            flags = tuple([automaton[1][order.index(one)] for one in range(many)])
            self.same(look_ahead((automaton[0], flags, steps)), told)
            self.same(stable_depth((automaton[0], flags, steps)), stable_depth(automaton))

    def test_without_a_symbol_of_arity_2_it_is_1(self):
        """Point 74."""
        narrow = [(0,), (0, 1), (1, 0), (0, 1, 1), (0, 0, 1), (1,), (0, 0, 0, 0)]
        for automaton in helpers.many_automata(506, 3, narrow):
            self.shows(look_ahead(automaton), "1")

    def test_without_trees_it_is_1(self):
        """Point 74."""
        for automaton in helpers.many_automata(507, 3, [(1,), (2,), (1, 2), (2, 2, 1, 1)]):
            self.shows((look_ahead(automaton), stable_depth(automaton)), "(1, 0)")

    def test_good_trees_that_are_not_high(self):
        """Point 74: if no good tree is higher than K, it is at most K."""
        found = set()
        for automaton in looking_automata(508, 2):
            if total_good(automaton) is not None and total_good(automaton) > 0:
                high = max(levels(tree) for tree in all_trees(automaton[0], 9) if good(automaton, tree))
                if total_good(automaton) == len([1 for tree in all_trees(automaton[0], 9) if good(automaton, tree)]):
                    self.assertLessEqual(look_ahead(automaton), high)
                    found.add((look_ahead(automaton), high))
        self.assertLessEqual({(1, 1), (1, 2), (1, 3), (2, 2)}, found)

    def test_no_states_or_all_states_good(self):
        for arities in BRANCHING:
            steps = random_automaton(random.Random(509), arities, 4)[2]
            told = [look_ahead((arities, (flag,) * 4, steps)) for flag in (True, False)]
            self.shows(told, "[1, 1]")

    def test_what_is_enough_for_two_is_enough_for_both(self):
        """Point 80."""
        told = 0
        closed = [(least, automaton) for least, automaton in LOOKS if least is not None]
        others = [(look_ahead(automaton), automaton) for automaton in looking_automata(510, 1)]
        for (least, first), (other, second) in itertools.product(closed, others):
            if first[0] == second[0] and other is not None:
                joined = both(first, second)
                if len(joined[1]) <= 4:
                    self.assertLessEqual(look_ahead(joined), max(least, other))
                    told += look_ahead(joined) > 1
        self.assertGreater(told, 10)


class PairTrees(Case):
    def test_the_first_two_trees_of_all(self):
        """Point 75, against a search through all small trees."""
        found = 0
        for automaton in looking_automata(511, 1)[::2]:
            size = {(0, 2): 6, (2, 0): 6, (0, 0, 2): 5, (0, 1, 2): 5}.get(automaton[0], 4)
            for depth in (0, 1, 2, 3):
                for first, second in itertools.product(range(len(automaton[1])), repeat=2):
                    for most in (1, 3, size):
                        told = pair_trees(automaton, depth, first, second, most)
                        self.same(told, first_pair(automaton, depth, first, second, most))
                        if told is not None:
                            found += told[0] != told[1]
                            self.shows(accepts_pair(automaton, depth, first, second, told), "True")
                            self.assertIn((first, second), pairs(automaton, depth))
        self.assertGreater(found, 200)

    def test_sizes_up_to_6(self):
        chance = random.Random(512)
        for arities in [(0, 1, 2), (0, 0, 2), (0, 2, 2), (0, 2), (2, 1, 0, 0)]:
            for _ in range(2):
                automaton = random_automaton(chance, arities, 4)
                for first, second in itertools.product(range(4), repeat=2):
                    for depth in (1, 2, 3):
                        self.same(pair_trees(automaton, depth, first, second, 6),
                                  first_pair(automaton, depth, first, second, 6))

    def test_the_order(self):
        """By the sum of the sizes, the size of the first one, the first one, and the second one."""
        levels_of = ((0, 1), (True, False, False, False), (0, (1, 2, 3, 3)))
        self.shows(pair_trees(levels_of, 0, 0, 2, 6), "((0,), (1, (1, (0,))))")
        self.shows(pair_trees(levels_of, 1, 1, 2, 6), "((1, (0,)), (1, (1, (0,))))")
        self.shows(pair_trees(levels_of, 2, 1, 2, 6), "None")
        self.shows([pair_trees(levels_of, 0, 3, 3, size) for size in range(1, 7)],
                   str([None] * 3 + [((1, (1, (1, (0,)))), (1, (1, (1, (0,)))))] * 3))
        # One of 1 and 5 nodes comes ahead of one of 3 and 3 nodes, and that ahead of one of 5 and 1 nodes.
        both_ways = ((0, 2), (True, True, True, True), (0, ((1, 0, 0, 0), (0, 0, 0, 0), (0, 0, 0, 0), (0, 0, 0, 0))))
        self.same(pair_trees(both_ways, 0, 0, 1, 6), ((0,), (1, (0,), (0,))))
        self.same(pair_trees(both_ways, 1, 0, 1, 6), ((1, (0,), (1, (0,), (0,))), (1, (0,), (0,))))
        self.same(pair_trees(both_ways, 1, 1, 0, 6), ((1, (0,), (0,)), (1, (0,), (1, (0,), (0,)))))

    def test_sizes_1_and_6_and_depths_0_and_12(self):
        self.shows([pair_trees(SWAP, 0, 0, 1, size) for size in (1, 6)], str([((0,), (1,))] * 2))
        self.shows([pair_trees(SWAP, 12, 0, 0, size) for size in (1, 6)], str([((0,), (0,))] * 2))
        self.shows([pair_trees(SWAP, 0, 2, 2, size) for size in (1, 2, 3)],
                   str([None] * 2 + [((2, (0,), (1,)), (2, (0,), (1,)))]))
        self.shows([pair_trees(NO_TREES, depth, 0, 0, 6) for depth in (0, 12)], "[None, None]")
        self.shows(pair_trees(SWAP, 12, 0, 1, 6), "None")

    def test_none_though_they_are_a_pair(self):
        """Only greater trees have the two states and are equal so deep."""
        self.assertIn((0, 1), pairs(ODD, 12))
        self.shows(pair_trees(ODD, 5, 0, 1, 6), "None")


class Judge(Case):
    def test_all_small_values(self):
        """Points 1 and 75."""
        found = 0
        for automaton in looking_automata(513, 1)[::5]:
            trees = all_trees(automaton[0], 4)[:8]
            for first, second in itertools.product(range(len(automaton[1])), repeat=2):
                for depth in (0, 1, 2):
                    for value in itertools.product(trees, repeat=2):
                        accepted = accepts_pair(automaton, depth, first, second, value)
                        self.same(accepted, judged(automaton, depth, first, second, value))
                        if accepted:
                            found += 1
                            self.assertIn((first, second), pairs(automaton, depth))
        self.assertGreater(found, 500)

    def test_one_thing_changed(self):
        for automaton, depth, first, second in [(SWAP, 1, 2, 3), (SWAP, 0, 0, 1), (CHAINS, 2, 1, 0), (ODD, 1, 0, 1)]:
            value = pair_trees(automaton, depth, first, second, 6)
            self.shows(accepts_pair(automaton, depth, first, second, value), "True")
            for at, other in enumerate([value] + changed(value)):
                with self.subTest(at=at):
                    self.same(accepts_pair(automaton, depth, first, second, other),
                              judged(automaton, depth, first, second, other))

    def test_trees_of_15_and_16_nodes(self):
        turn = ((0, 1), (True, False), (0, (1, 0)))
        fourteen, fifteen, sixteen = nested_tree(13), nested_tree(14), nested_tree(15)
        self.shows([accepts_pair(turn, depth, 0, 0, (fifteen, fifteen)) for depth in (0, 12)], "[True, True]")
        self.shows([accepts_pair(turn, depth, 0, 1, (fifteen, fourteen)) for depth in (0, 12)], "[True, True]")
        self.shows(accepts_pair(turn, 12, 1, 0, (nested_tree(11), nested_tree(12))), "False")
        self.shows(accepts_pair(turn, 11, 1, 0, (nested_tree(11), nested_tree(12))), "True")
        self.shows(accepts_pair(turn, 0, 0, 1, (fifteen, sixteen)), "False")
        self.shows(accepts_pair(turn, 0, 1, 0, (sixteen, fifteen)), "False")
        self.shows(accepts_pair(ODD, 12, 0, 0, (perfect_tree(4, 0, 1), perfect_tree(4, 0, 1))), "True")
        self.shows(accepts_pair(ODD, 0, 0, 0, (perfect_tree(5, 0, 1), perfect_tree(4, 0, 1))), "False")

    def test_what_is_no_evidence(self):
        one, other = (2, (1,), (0,)), (2, (1,), (1,))
        self.shows(accepts_pair(SWAP, 1, 2, 3, (one, other)), "True")
        for value in [None, True, 0, "", [], (), [one, other], (one,), (one, other, other), (other, one), (one, one),
                      (one, list(other)), (one, (2, (True,), (1,))), (one, (2, [1], (1,))), (one, None), (None, other),
                      (one, (3,)), (one, (0,)), DEEP, DEEP_LIST, (DEEP, other), (one, DEEP), (one, DEEP_LIST),
                      (one, nested_tree(5000)), (one, other) * 50000]:
            self.shows(accepts_pair(SWAP, 1, 2, 3, value), "False")
        self.shows([accepts_pair(SWAP, 1, first, second, (one, other))
                    for first, second in [(3, 2), (2, 2), (3, 3), (0, 3)]], str([False] * 4))


class WrongArguments(Case):
    AUTOMATON = ("automaton", helpers.WRONG_AUTOMATA)

    def test_each_is_refused_by_its_name_and_the_first_of_several(self):
        """Points 8 and 81."""
        self.refuses_in_order(stable_depth, (MIXED,), [self.AUTOMATON])
        self.refuses_in_order(look_ahead, (MIXED,), [self.AUTOMATON])
        rest = [("depth", helpers.wrong_integers(0, 12)), ("first", helpers.wrong_integers(0, 1)),
                ("second", helpers.wrong_integers(0, 1))]
        self.refuses_in_order(pair_trees, (MIXED, 0, 1, 1, 6), [self.AUTOMATON] + rest + [
            ("size", helpers.wrong_integers(1, 6))])
        self.refuses_in_order(accepts_pair, (MIXED, 12, 0, 1, ()), [self.AUTOMATON] + rest)

    def test_arguments_ahead_of_any_value(self):
        self.bad("automaton", accepts_pair, None, None, None, None, None)
        self.bad("depth", accepts_pair, SWAP, 13, 4, 4, DEEP)
        self.bad("first", accepts_pair, SWAP, 12, 4, 4, DEEP)
        self.bad("second", accepts_pair, SWAP, 12, 3, 4, DEEP)

    def test_arguments_stay_and_equal_calls_return_equal_results(self):
        value = [[2, [1], [0]], [2, [1], [1]]]
        for _ in range(2):
            self.shows(accepts_pair(SWAP, 1, 2, 3, value), "False")
            self.shows(pair_trees(SWAP, 1, 2, 3, 6), "((2, (0,), (1,)), (2, (0,), (0,)))")
            self.shows((stable_depth(SWAP), look_ahead(SWAP)), "(2, 2)")
        self.assertEqual(value, [[2, [1], [0]], [2, [1], [1]]])


if __name__ == "__main__":
    unittest.main()
