"""How what is let in is derived: points 98 to 103, and rootfirst/derivations.py."""

import functools
import random
import unittest

from rootfirst.closure import is_let_in
from rootfirst.derivations import derives, told_derivation
from rootfirst.errors import TooLarge
from tests import helpers
from tests.helpers import (
    BRANCHING, CHAINS, DEEP, DEEP_LIST, LOOKS, ODD, PARITY, SWAP, Case, alike_along, all_places, all_trees, at_place,
    changed, exchanged, good, greater_trees, is_plain_place, is_plain_tree, is_plainly_let_in, levels,
    looking_automata, nested_tree, nodes, path_tops, perfect_tree, random_automaton, top,
)

MIXED = ((0, 1, 2), (True, False), (0, (1, 0), ((0, 1), (1, 0))))
NO_TREES = ((1, 2), (True, False), ((1, 0), ((0, 1), (1, 0))))
EVERY, NONE = ((0, 1, 2), (True,), (0, (0,), ((0,),))), ((0, 1, 2), (False,), (0, (0,), ((0,),)))
TOLD = (((), (2, (0,), (1,))), ((1,), (2, (1,), (0,))))

# A depth, the size of the greatest tree that is made or told on the way, an automaton, and a tree that is let in.
GREAT_ON_THE_WAY = [
    (1, 15, ((0, 1, 2), (False, False, True, False),
             (3, (3, 3, 0, 3), ((3, 3, 0, 0), (2, 1, 3, 0), (3, 2, 1, 2), (2, 3, 2, 0)))),
     (2, (2, (1, (0,)), (2, (1, (0,)), (1, (0,)))), (1, (0,)))),
    (1, 16, ((0, 1, 2), (True, False, False, False),
             (1, (1, 1, 0, 0), ((3, 0, 0, 0), (0, 3, 0, 2), (1, 1, 1, 0), (3, 1, 3, 3)))),
     (2, (2, (1, (2, (1, (0,)), (1, (0,)))), (0,)), (1, (0,)))),
    (1, 17, ((0, 2), (False, False, False, True), (3, ((1, 0, 0, 1), (0, 0, 0, 3), (3, 1, 1, 0), (2, 1, 3, 0)))),
     (1, (0,), (1, (1, (1, (0,), (0,)), (0,)), (0,)))),
    (3, 17, ((0, 2), (False, True, False, False), (2, ((0, 3, 0, 2), (1, 0, 2, 1), (2, 3, 1, 0), (0, 2, 0, 3)))),
     (1, (1, (1, (1, (0,), (0,)), (0,)), (0,)), (1, (1, (0,), (1, (0,), (0,))), (0,)))),
]
EXACT_PAIR = (2, 15, ((0, 0, 2), (True, False, False, True),
                      (0, 0, ((2, 0, 1, 3), (0, 3, 1, 1), (0, 0, 1, 3), (3, 2, 0, 0)))),
              (2, (2, (0,), (0,)), (2, (1,), (0,))))
GREAT_PAIRS = [
    (1, 16, ((0, 1, 2), (False, True, True, True),
             (3, (0, 3, 0, 3), ((0, 0, 2, 0), (0, 2, 2, 0), (3, 1, 3, 2), (1, 0, 2, 0)))),
     (2, (1, (2, (0,), (0,))), (1, (0,)))),
    (2, 16, ((0, 1, 2), (True, False, True, False),
             (1, (1, 1, 3, 1), ((3, 0, 2, 1), (3, 0, 2, 0), (0, 1, 0, 1), (2, 0, 3, 0)))),
     (2, (1, (0,)), (2, (2, (0,), (0,)), (0,)))),
    (2, 17, ((0, 0, 2), (False, False, True, False),
             (0, 0, ((2, 3, 3, 3), (1, 2, 1, 2), (2, 1, 0, 3), (2, 2, 0, 1)))),
     (2, (2, (0,), (1,)), (2, (1,), (2, (1,), (0,))))),
    (3, 16, ((0, 1, 2), (True, False, True, False),
             (2, (3, 0, 2, 2), ((0, 0, 2, 1), (2, 2, 1, 1), (2, 3, 3, 2), (0, 3, 0, 0)))),
     (2, (1, (1, (1, (0,)))), (1, (1, (1, (0,)))))),
]


def plainly_told(depth, tree, trees):
    """Point 99, word by word, with one of the good trees, in order, each time: the pairs, the trees that are made,
    and whether all that was looked for was among the trees."""
    looked_for = top(tree, depth)
    found = [one for one in trees if top(one, depth) == looked_for]
    if not found:
        return [], [], False
    pairs, made = [((), found[0])], [found[0]]
    for place in all_places(tree):
        part, tops = at_place(tree, place), path_tops(tree, place, depth)
        if top(at_place(made[-1], place), depth) != top(part, depth):
            found = [one for one in trees if at_place(one, place) is not None
                     and path_tops(one, place, depth) == tops and top(at_place(one, place), depth) == top(part, depth)]
            if not found:
                return pairs, made, False
            pairs.append((place, found[0]))
            made.append(exchanged(made[-1], place, at_place(found[0], place)))
    return pairs, made, True


def judged(automaton, depth, tree, value):
    """Point 98, word by word."""
    if type(value) is not tuple or not 1 <= len(value) <= 20:
        return False
    for pair in value:
        if type(pair) is not tuple or len(pair) != 2 or not is_plain_place(pair[0]):
            return False
        if not is_plain_tree(automaton[0], pair[1]) or not good(automaton, pair[1]):
            return False
    if value[0][0] != ():
        return False
    made = value[0][1]
    for place, other in value[1:]:
        if at_place(made, place) is None or at_place(other, place) is None:
            return False
        if not alike_along(made, other, place, depth):
            return False
        made = exchanged(made, place, at_place(other, place))
        if nodes(made) > 15:
            return False
    return made == tree


@functools.lru_cache(maxsize=None)
def let_in_trees(automaton, depth, many):
    """So many of the small trees, of those that are let in, and good and extra ones of them."""
    small = greater_trees(automaton[0])
    trees = [tree for tree in small[:30] + small[30:300:7] if is_let_in(automaton, depth, tree)]
    extra = [tree for tree in trees if not good(automaton, tree)]
    return (extra[:many] + extra[-many:] + trees[-many:])[:2 * many]


class Examples(Case):
    def test_the_interface_and_point_103(self):
        self.shows(told_derivation(SWAP, 1, (2, (0,), (0,))), "(((), (2, (0,), (1,))), ((1,), (2, (1,), (0,))))")
        self.shows((derives(SWAP, 1, (2, (0,), (0,)), (((), (2, (0,), (1,))), ((1,), (2, (1,), (0,))))),
                    told_derivation(SWAP, 2, (2, (0,), (0,))) is None), "(True, True)")
        for depth in range(2, 13):
            self.shows(told_derivation(SWAP, depth, (2, (0,), (0,))), "None")
            self.shows(derives(SWAP, depth, (2, (0,), (0,)), TOLD), "False")
            self.shows(told_derivation(SWAP, depth, (2, (1,), (0,))), "(((), (2, (1,), (0,))),)")


class Told(Case):
    def test_against_a_search_through_all_good_trees(self):
        """Points 99 and 100."""
        kinds = {"good": 0, "extra": 0, "too large": 0, "greater": 0}
        lengths = set()
        for automaton in looking_automata(911, 1):
            trees = [tree for tree in greater_trees(automaton[0]) if good(automaton, tree)]
            most = max([nodes(tree) for tree in greater_trees(automaton[0])] + [0])
            for depth in (1, 2, 3, 12):
                for tree in let_in_trees(automaton, depth, 3):
                    pairs, made, all_found = plainly_told(depth, tree, trees)
                    try:
                        told = told_derivation(automaton, depth, tree)
                    except TooLarge:
                        kinds["too large"] += 1
                        self.assertTrue(not all_found or max(map(nodes, made)) > 15)
                        continue
                    self.assertLessEqual(max(map(nodes, made + [one for _, one in told])), 15)
                    self.same(told[:len(pairs)], tuple(pairs))
                    if all_found:
                        self.assertEqual((len(told), made[-1]), (len(pairs), tree))
                        kinds["good" if good(automaton, tree) else "extra"] += 1
                        lengths.add(len(told))
                    else:
                        self.assertGreater(nodes(told[len(pairs)][1]), most)
                        kinds["greater"] += 1
        self.assertGreater(min(kinds.values()), 5)
        self.assertLessEqual({1, 2, 3, 4, 5, 6}, lengths)

    def test_what_the_judge_says_of_it(self):
        """Points 98, 99 and 100: each place is told at most once, in order."""
        for automaton in looking_automata(912, 1):
            for depth in (1, 2, 3):
                for tree in let_in_trees(automaton, depth, 3):
                    try:
                        told = told_derivation(automaton, depth, tree)
                    except TooLarge:
                        continue
                    self.shows(derives(automaton, depth, tree, told), "True")
                    self.assertTrue(judged(automaton, depth, tree, told))
                    places = [place for place, _ in told]
                    self.assertEqual(places, sorted(set(places)))
                    self.assertTrue(set(places) <= set(all_places(tree)))
                    for other in let_in_trees(automaton, depth, 3):
                        self.same(derives(automaton, depth, other, told), other == tree)

    def test_of_what_is_not_let_in_there_is_none(self):
        kinds = {True: 0, False: 0}
        for automaton in looking_automata(913, 1):
            for depth in (1, 2, 3, 12):
                for tree in greater_trees(automaton[0])[:40:3]:
                    let_in = is_plainly_let_in(automaton, depth, tree)
                    try:
                        told = told_derivation(automaton, depth, tree)
                    except TooLarge:
                        self.assertTrue(let_in)
                        continue
                    self.same(told is not None, let_in)
                    kinds[let_in] += 1
        self.assertGreater(min(kinds.values()), 1000)

    def test_a_good_tree_that_is_not_higher_than_the_depth_derives_itself(self):
        for automaton in looking_automata(914, 1):
            for tree in [tree for tree in greater_trees(automaton[0])[:60] if good(automaton, tree)][:8]:
                for depth in (levels(tree), 12):
                    self.same(told_derivation(automaton, depth, tree), (((), tree),))

    def test_no_states_or_all_states_good(self):
        """Point 101."""
        chance = random.Random(915)
        for arities in BRANCHING + [(0,), (0, 1)]:
            steps = random_automaton(chance, arities, 4)[2]
            for depth in (1, 2, 12):
                for tree in all_trees(arities, 4)[:10]:
                    self.shows(told_derivation((arities, (False,) * 4, steps), depth, tree), "None")
                    told = told_derivation((arities, (True,) * 4, steps), depth, tree)
                    self.shows(derives((arities, (True,) * 4, steps), depth, tree, told), "True")
                    self.shows(derives((arities, (True,) * 4, steps), depth, tree, (((), tree),)), "True")
                    self.shows(derives((arities, (False,) * 4, steps), depth, tree, told), "False")

    def test_trees_of_15_and_16_nodes(self):
        """The told ones, and those that are made on the way, though the tree that is derived is smaller."""
        for depth, size, automaton, tree in GREAT_ON_THE_WAY:
            most = 15 if automaton[0] == (0, 2) else 9
            trees = [one for one in all_trees(automaton[0], most) if good(automaton, one)]
            pairs, made, all_found = plainly_told(depth, tree, trees)
            self.assertTrue(all_found and made[-1] == tree)
            self.assertLessEqual(max(nodes(one) for _, one in pairs), 15)
            self.assertEqual(max(map(nodes, made)), size)
            self.same(derives(automaton, depth, tree, tuple(pairs)), size == 15)
            if size == 15:
                self.same(told_derivation(automaton, depth, tree), tuple(pairs))
            else:
                self.too_large("tree", told_derivation, automaton, depth, tree)
        for depth, size, automaton, tree in [EXACT_PAIR] + GREAT_PAIRS:
            self.shows(is_let_in(automaton, depth, tree), "True")
            trees = [one for one in all_trees(automaton[0], 9) if good(automaton, one)]
            pairs, _, all_found = plainly_told(depth, tree, trees)
            self.assertFalse(all_found)
            if size == 15:
                told = told_derivation(automaton, depth, tree)
                self.assertTrue(derives(automaton, depth, tree, told) and judged(automaton, depth, tree, told))
                self.same(told[:len(pairs)], tuple(pairs))
                self.assertEqual(max(nodes(one) for _, one in told), 15)
            else:
                self.too_large("tree", told_derivation, automaton, depth, tree)

    def test_trees_that_are_not_let_in_are_none_though_great(self):
        for depth, _, automaton, tree in GREAT_PAIRS + GREAT_ON_THE_WAY:
            less = (automaton[0], (False,) * 4, automaton[2])
            self.shows(told_derivation(less, depth, tree), "None")
        self.shows((told_derivation(PARITY, 12, (0,)), told_derivation(ODD, 12, perfect_tree(4, 0, 1))),
                   "(None, None)")


class Derives(Case):
    def test_other_derivations_than_the_told_one(self):
        tree = (2, (0,), (0,))
        for value, right in [
            ((((), (2, (1,), (0,))), ((0,), (2, (0,), (1,)))), True),
            ((((), (2, (0,), (1,))), ((1,), (2, (1,), (0,)))), True),
            ((((), (2, (1,), (0,))), ((), (2, (0,), (1,))), ((1,), (2, (1,), (0,)))), True),
            ((((), (2, (0,), (1,))), ((1,), (2, (0,), (1,))), ((1,), (2, (1,), (0,)))), True),
            ((((), (2, (0,), (1,))), ((1,), (2, (1,), (0,))), ((1,), (2, (1,), (0,)))), True),
            ((((), (2, (0,), (1,))), ((1,), (2, (1,), (0,))), ((1,), (2, (0,), (1,)))), False),
            ((((), (2, (0,), (1,))), ((1,), (2, (1,), (0,))), ((0,), (2, (1,), (0,)))), False),
            ((((), (2, (0,), (1,))), ((0,), (2, (1,), (0,)))), False),
            ((((), (2, (0,), (1,))),), False), ((((), (2, (0,), (0,))),), False),
            ((((1,), (2, (0,), (1,))), ((1,), (2, (1,), (0,)))), False),
            ((((), (2, (0,), (1,))), ((1,), (2, (0,), (0,)))), False),
            ((((), (2, (0,), (1,))), ((1,), (0,))), False),
            ((((), (2, (0,), (1,))), ((1, 0), (2, (1,), (0,)))), False),
        ]:
            self.same(derives(SWAP, 1, tree, value), right)
            self.same(judged(SWAP, 1, tree, value), right)
            self.shows(derives(SWAP, 2, tree, value), "False")
        self.shows(derives(SWAP, 1, (2, (0,), (1,)), (((), (2, (0,), (1,))),)), "True")
        self.shows(derives(SWAP, 12, (2, (0,), (1,)), (((), (2, (1,), (0,))), ((), (2, (0,), (1,))))), "True")

    def test_the_path_is_looked_at_in_what_was_made_so_far(self):
        """Both trees of CHAINS are good, with the same leaf below any chain; grafts change what is on the path."""
        one, other = (2, (3, (0,)), (3, (3, (1,)))), (2, (3, (3, (1,))), (3, (0,)))
        tree = (2, (3, (0,)), (3, (0,)))
        for depth, right in [(1, True), (2, True), (3, False)]:
            value = (((), one), ((1,), other))
            self.same(derives(CHAINS, depth, tree, value), right)
            self.same(judged(CHAINS, depth, tree, value), right)
        grown = (2, (3, (3, (1,))), (3, (3, (1,))))
        for depth, right in [(1, True), (2, True), (3, False)]:
            value = (((), one), ((0,), other))
            self.same(derives(CHAINS, depth, grown, value), right)
            self.same(judged(CHAINS, depth, grown, value), right)

    def test_derivations_of_0_1_20_and_21_pairs(self):
        tree = (2, (0,), (1, (0,)))
        for many, right in [(0, False), (1, True), (2, True), (19, True), (20, True), (21, False), (40, False)]:
            value = (((), tree),) * many
            self.same(derives(EVERY, 1, tree, value), right)
            self.same(judged(EVERY, 1, tree, value), right)
        self.shows(derives(SWAP, 1, (2, (0,), (0,)), TOLD[:1] * 19 + TOLD[1:]), "True")
        self.shows(derives(SWAP, 1, (2, (0,), (0,)), TOLD[:1] * 20 + TOLD[1:]), "False")
        self.shows(derives(SWAP, 1, (2, (0,), (0,)), TOLD + TOLD[1:] * 18), "True")
        self.shows(derives(SWAP, 1, (2, (0,), (0,)), TOLD + TOLD[1:] * 19), "False")

    def test_trees_of_15_and_16_nodes_on_the_way(self):
        seven, leaf = perfect_tree(3), (0,)
        base = (2, seven, leaf)
        for other, right in [((2, leaf, seven), True), ((2, leaf, (1, seven)), False)]:
            made = nodes(base) - 1 + nodes(other[2])
            self.assertEqual(made, 15 if right else 16)
            value = (((), base), ((1,), other), ((0,), (2, leaf, leaf)))
            self.same(derives(EVERY, 1, (2, leaf, other[2]), value), right)
            self.same(judged(EVERY, 1, (2, leaf, other[2]), value), right)
        self.shows(derives(EVERY, 1, nested_tree(14), (((), nested_tree(14)),)), "True")
        self.shows(derives(EVERY, 1, leaf, (((), nested_tree(15)), ((), leaf))), "False")
        self.shows(derives(EVERY, 12, nested_tree(14), (((), leaf), ((), nested_tree(14)), ((0,) * 14,
                                                                                           nested_tree(14)))), "True")

    def test_what_is_derived_is_let_in(self):
        """Points 1 and 99: whatever good trees are grafted at whatever places."""
        chance = random.Random(916)
        kinds = {True: 0, False: 0}
        extra = 0
        for automaton in [automaton for automaton in looking_automata(917, 1) if 2 in automaton[0]]:
            trees = [tree for tree in greater_trees(automaton[0])[:120] if good(automaton, tree)]
            for _ in range(30 if trees else 0):
                depth, value, made = chance.choice((1, 1, 2, 3)), [((), chance.choice(trees))], None
                made = value[0][1]
                for _ in range(chance.randrange(4)):
                    other = chance.choice(trees)
                    shared = [place for place in all_places(made) if at_place(other, place) is not None]
                    # Most of these are right, and some are not.
                    alike = [place for place in shared if alike_along(made, other, place, depth)]
                    place = chance.choice(alike if chance.random() < 0.9 else shared)
                    value.append((place, other))
                    made = exchanged(made, place, at_place(other, place))
                if nodes(made) <= 15:
                    right = derives(automaton, depth, made, tuple(value))
                    self.same(right, judged(automaton, depth, made, tuple(value)))
                    kinds[right] += 1
                    if right:
                        self.assertTrue(is_plainly_let_in(automaton, depth, made))
                        extra += not good(automaton, made)
        self.assertGreater(min(kinds.values()), 30)
        self.assertGreater(extra, 30)

    def test_one_thing_changed(self):
        for automaton, depth, tree, value in [
            (SWAP, 1, (2, (0,), (0,)), TOLD), (SWAP, 2, (2, (1,), (0,)), (((), (2, (1,), (0,))),)),
            (EVERY, 2, (1, (0,)), (((), (2, (0,), (0,))), ((), (1, (0,))), ((0,), (1, (0,))))),
            (LOOKS[0][1], 1, (2, (0,), (1,)), (((), (2, (0,), (1,))), ((0,), (2, (0,), (1,))))),
        ]:
            self.shows(derives(automaton, depth, tree, value), "True")
            for at, other in enumerate([value] + changed(value)):
                with self.subTest(at=at):
                    self.same(derives(automaton, depth, tree, other), judged(automaton, depth, tree, other))

    def test_what_is_no_derivation(self):
        tree = (0,)
        for value in [None, True, 0, "", [], (), [((), tree)], ([(), tree],), (((), [0]),), (((), tree, ()),),
                      (((),),), ((),), (tree,), ((tree, ()),), ((None, tree),), (((), None),), ((0, tree),),
                      (((), (False,)),), (([], tree),), (((0,), tree),), (((), tree), ((False,), (1, tree))),
                      (((), tree), ((0,), tree)), (((), tree), ((0,), (1, tree))), (((), (1, tree)), ((2,), (1, tree))),
                      (((), tree), ((0, 0), (1, (1, tree))), ((), tree)), (((), (1, tree)), ((0, 0), (1, (1, tree)))),
                      (((), (1, tree)), ((-1,), (1, tree))), (((), (1, tree)), ((True,), (1, tree))),
                      (((), (1, tree)), ((0,) * 15, (1, tree))), DEEP, DEEP_LIST, (DEEP,), (DEEP_LIST,),
                      ((DEEP, tree),), (((), DEEP),), (((), nested_tree(5000)),), (((), (1, DEEP)),),
                      (((), tree), (DEEP, tree)), (((), tree),) * 100000]:
            self.shows(derives(EVERY, 1, tree, value), "False")
        self.shows(derives(EVERY, 1, tree, (((), tree),)), "True")
        self.shows(derives(NONE, 1, tree, (((), tree),)), "False")


class WrongArguments(Case):
    WRONGS = [("automaton", helpers.WRONG_AUTOMATA), ("depth", helpers.wrong_integers(1, 12)),
              ("tree", helpers.WRONG_TREES)]

    def test_each_is_refused_by_its_name_and_the_first_of_several(self):
        """Points 8 and 102."""
        self.refuses_in_order(told_derivation, (MIXED, 1, (0,)), self.WRONGS)
        self.refuses_in_order(told_derivation, (MIXED, 12, (0,)), self.WRONGS)
        self.refuses_in_order(derives, (MIXED, 12, (0,), None), self.WRONGS)
        self.refuses_in_order(derives, (MIXED, 1, (0,), (((), (0,)),)), self.WRONGS)

    def test_no_tree_without_a_leaf(self):
        self.bad("tree", told_derivation, NO_TREES, 1, (0,))
        self.bad("tree", derives, NO_TREES, 1, (0, (0,)), ())

    def test_great_automata_are_refused(self):
        great = ((0, 1), (True,) * 5, (0, (0,) * 5))
        self.bad("automaton", told_derivation, great, 1, (0,))
        self.bad("automaton", derives, great, 1, (0,), (((), (0,)),))

    def test_wrong_values_go_ahead_of_what_is_too_large(self):
        depth, _, automaton, tree = GREAT_PAIRS[0]
        self.bad("automaton", told_derivation, automaton[:2], depth, tree)
        self.bad("depth", told_derivation, automaton, 13, tree)
        self.bad("tree", told_derivation, automaton, depth, perfect_tree(5, 0, 2))
        self.too_large("tree", told_derivation, automaton, depth, tree)

    def test_arguments_stay_and_equal_calls_return_equal_results(self):
        value = [[(), [0]]]
        for _ in range(2):
            self.shows(derives(EVERY, 1, (0,), value), "False")
            self.shows(told_derivation(SWAP, 1, (2, (0,), (0,))), repr(TOLD))
            self.shows(derives(SWAP, 1, (2, (0,), (0,)), TOLD), "True")
        self.assertEqual(value, [[(), [0]]])


if __name__ == "__main__":
    unittest.main()
