"""What must be let in: points 93 to 97 and 101 to 103, and rootfirst/closure.py."""

import itertools
import random
import unittest

from rootfirst.closure import first_extra, is_let_in, sets_along
from rootfirst.errors import TooLarge
from rootfirst.exchange import is_closed
from rootfirst.least import least_table, stands_for
from tests import helpers
from tests.helpers import (
    BRANCHING, CHAINS, LOOKS, ODD, PARITY, SWAP, Case, all_places, all_trees, at_place, exchanged, exchanged_from, good,
    greater_trees, is_plainly_let_in, levels, looking_automata, nested_tree, nodes, path_tops, perfect_tree, plain_sets,
    random_automaton, top,
)

MIXED = ((0, 1, 2), (True, False), (0, (1, 0), ((0, 1), (1, 0))))
NO_TREES = ((1, 2), (True, False), ((1, 0), ((0, 1), (1, 0))))

# The depth, the size of the first extra tree, and an automaton.
EXTRA = [
    (1, 13, ((0, 2), (True, False, False, False), (2, ((0, 0, 1, 3), (3, 0, 2, 1), (2, 3, 3, 3), (3, 1, 1, 2))))),
    (1, 15, ((0, 2), (True, True, False, True), (0, ((1, 1, 0, 3), (0, 3, 1, 1), (1, 3, 0, 3), (3, 0, 2, 2))))),
    (1, 15, ((0, 2), (False, True, False, False), (1, ((2, 0, 0, 2), (0, 0, 2, 0), (2, 0, 3, 2), (3, 0, 1, 1))))),
    (1, 17, ((0, 2), (False, False, True, False), (3, ((1, 1, 0, 3), (3, 2, 0, 3), (0, 0, 2, 0), (3, 3, 0, 0))))),
    (1, 19, ((0, 2), (False, True, False, False), (1, ((2, 0, 0, 3), (0, 0, 0, 2), (2, 0, 1, 1), (3, 3, 2, 3))))),
    (2, 13, ((0, 2), (False, False, True, False), (0, ((3, 3, 3, 1), (3, 3, 3, 0), (0, 3, 1, 0), (1, 0, 3, 2))))),
    (2, 15, ((0, 2), (True, True, True, False), (1, ((0, 2, 1, 3), (1, 3, 3, 3), (0, 2, 0, 2), (0, 3, 0, 2))))),
    (2, 15, ((0, 2), (False, True, False, False), (1, ((0, 0, 1, 1), (3, 0, 2, 0), (0, 3, 3, 0), (3, 0, 0, 0))))),
    (2, 16, ((0, 1, 2), (False, False, False, True),
             (1, (3, 3, 3, 3), ((0, 1, 3, 1), (0, 0, 3, 0), (1, 1, 3, 2), (1, 0, 3, 2))))),
    (2, 17, ((0, 2), (False, False, True, False), (2, ((2, 3, 3, 3), (1, 2, 3, 0), (0, 3, 0, 0), (0, 0, 3, 0))))),
    (2, 19, ((0, 2), (True, False, False, False), (0, ((2, 2, 1, 3), (2, 1, 1, 0), (1, 3, 1, 2), (2, 3, 1, 3))))),
]


def some_trees(arities, more=0):
    most = {(0, 2): 9, (2, 0): 9, (0, 0, 2): 5, (0, 1, 2): 6, (1, 2, 0): 6, (0, 1): 9, (1, 0): 9}.get(arities, 4)
    return all_trees(arities, most + more)


def is_derived(automaton, depth, tree):
    """Point 99: whether the tree is made by grafts of good trees, place by place."""
    trees = [one for one in greater_trees(automaton[0]) if good(automaton, one)]
    made = ([one for one in trees if top(one, depth) == top(tree, depth)] + [None])[0]
    for place in all_places(tree) if made is not None else []:
        wanted, tops = top(at_place(tree, place), depth), path_tops(tree, place, depth)
        if top(at_place(made, place), depth) != wanted:
            found = [one for one in trees if at_place(one, place) is not None
                     and path_tops(one, place, depth) == tops and top(at_place(one, place), depth) == wanted]
            if not found:
                return False
            made = exchanged(made, place, at_place(found[0], place))
    return made == tree


class Examples(Case):
    def test_the_interface(self):
        self.shows((sets_along(SWAP, 1, (2, (0,), (0,))), is_let_in(SWAP, 1, (2, (0,), (0,))), first_extra(SWAP, 1)),
                   "((((), (2,)), ((0,), (0, 1)), ((1,), (0, 1))), True, (2, (0,), (0,)))")
        self.shows((sets_along(SWAP, 2, (2, (0,), (0,))), sets_along(SWAP, 2, (2, (0,), (1,))),
                    first_extra(SWAP, 2) is None),
                   "((((), (2,)),), (((), (2,)), ((0,), (0,)), ((1,), (1,))), True)")

    def test_point_103(self):
        self.shows([is_let_in(SWAP, 1, tree) for tree in all_trees(SWAP[0], 3)],
                   "[False, False, True, True, True, True]")
        for depth in range(2, 13):
            self.assertEqual([tree for tree in all_trees(SWAP[0], 7) if is_let_in(SWAP, depth, tree)],
                             [(2, (0,), (1,)), (2, (1,), (0,))])


class Sets(Case):
    def test_word_by_word(self):
        """Points 94 and 95."""
        found = {True: 0, False: 0}
        differ = {2: 0, 3: 0, 12: 0}
        for automaton in looking_automata(901, 1) + [CHAINS]:
            for tree in some_trees(automaton[0])[-30:] + some_trees(automaton[0])[:10]:
                before = None
                for depth in (1, 2, 3, 12):
                    sets, failing = plain_sets(automaton, depth, tree)
                    told = sets_along(automaton, depth, tree)
                    self.same(told, tuple(sorted(sets.items())))
                    self.same(is_let_in(automaton, depth, tree), not failing)
                    found[not failing] += 1
                    if depth > 1:
                        differ[depth] += told != before
                    before = told
        self.assertGreater(min(found.values()), 3000)
        self.assertGreater(min(differ.values()), 20)

    def test_below_a_node_that_fails_no_node_gets_a_set_and_other_branches_go_on(self):
        """Good is 2 of two trees 2 of the leaves 0 and 1: the state of each leaf, of the pair, and of what is good."""
        pair = ((0, 0, 2), (False, False, True, False),
                (0, 1, ((3, 2, 3, 3), (3, 3, 3, 3), (3, 3, 2, 3), (3, 3, 3, 3))))
        tree = (2, (2, (1,), (2, (0,), (1,))), (2, (0,), (1,)))
        self.shows(sets_along(pair, 1, tree),
                   "(((), (2,)), ((0,), (0, 2)), ((0, 0), (0, 2)), ((0, 1), (1, 2)), ((0, 1, 0), (0, 2)), "
                   "((0, 1, 1), (1, 2)), ((1,), (1, 2)), ((1, 0), (0, 2)), ((1, 1), (1, 2)))")
        self.shows(is_let_in(pair, 1, tree), "False")
        self.shows(sets_along(pair, 2, tree),
                   "(((), (2,)), ((0,), (2,)), ((1,), (2,)), ((1, 0), (0,)), ((1, 1), (1,)))")
        self.shows(is_let_in(pair, 2, (2, tree[2], tree[2])), "True")

    def test_trees_of_1_15_and_16_nodes_and_the_depths_1_and_12(self):
        self.shows(sets_along(((0,), (True,), (0,)), 12, (0,)), "(((), (0,)),)")
        self.shows((sets_along(((0,), (False,), (0,)), 1, (0,)), is_let_in(((0,), (False,), (0,)), 1, (0,))),
                   "((((), ()),), False)")
        turn = ((0, 1), (True, False), (0, (1, 0)))
        for depth in (1, 12):
            for many in (11, 12, 13, 14):
                tree = nested_tree(many)
                sets, failing = plain_sets(turn, depth, tree)
                self.same(sets_along(turn, depth, tree), tuple(sorted(sets.items())))
                self.same(is_let_in(turn, depth, tree), many % 2 == 0)
                self.assertEqual(failing == [], many % 2 == 0)
            self.bad("tree", sets_along, turn, depth, nested_tree(15))
            self.bad("tree", is_let_in, turn, depth, nested_tree(15))
            full = perfect_tree(4, 0, 1)
            self.same(sets_along(ODD, depth, full), tuple(sorted(plain_sets(ODD, depth, full)[0].items())))
            self.same(is_let_in(ODD, depth, full), depth == 1)
        self.same(sets_along(turn, 12, nested_tree(12)), tuple([((0,) * many, (many % 2,)) for many in range(13)]))

    def test_the_depth_1_is_that_of_the_least_table(self):
        """Points 83 and 94."""
        for automaton in looking_automata(902, 1):
            sets, (start, rows) = stands_for(automaton), least_table(automaton)
            for tree in some_trees(automaton[0])[:60]:
                wanted, waiting = {}, [((), tree, start)]
                while waiting:
                    place, part, number = waiting.pop()
                    wanted[place] = sets[number]
                    entry = rows[number][part[0]]
                    for child in range(len(part) - 1) if entry is not None else ():
                        waiting.append((place + (child,), part[child + 1], entry[child]))
                self.same(sets_along(automaton, 1, tree), tuple(sorted(wanted.items())))


class LetIn(Case):
    def test_the_smallest_set_that_is_closed(self):
        """Point 93: what comes by exchanges made again and again is let in; and what is let in comes so."""
        found = 0
        for automaton in looking_automata(903, 1):
            most = {(0, 2): 11, (2, 0): 11, (0, 0, 2): 7, (0, 1, 2): 7, (1, 2, 0): 7}.get(automaton[0], 5)
            trees = all_trees(automaton[0], most)
            flags = {tree: good(automaton, tree) for tree in trees}
            for depth in (1, 2, 3):
                come = exchanged_from([tree for tree in trees if flags[tree]], depth, most)
                for tree in trees:
                    let_in = is_let_in(automaton, depth, tree)
                    if tree in come:
                        self.assertTrue(let_in)
                        found += not flags[tree]
                    elif nodes(tree) <= 5 and let_in:
                        # It comes from greater trees only.
                        self.assertTrue(is_derived(automaton, depth, tree))
        self.assertGreater(found, 500)

    def test_good_trees_are_let_in_and_lesser_depths_let_in_more(self):
        """Points 93 and 96."""
        for automaton in looking_automata(904, 1):
            for tree in some_trees(automaton[0])[-40:]:
                flags = [is_let_in(automaton, depth, tree) for depth in range(1, 7)]
                self.assertEqual(flags, sorted(flags, reverse=True))
                self.assertTrue(not good(automaton, tree) or all(flags))

    def test_trees_that_are_not_higher_than_the_depth(self):
        """Point 96."""
        for automaton in looking_automata(905, 1):
            for tree in some_trees(automaton[0])[-40:]:
                for depth in (levels(tree), levels(tree) + 1, 12):
                    self.same(is_let_in(automaton, depth, tree), good(automaton, tree))

    def test_a_judge_that_takes_all_good_trees_takes_all_that_is_let_in(self):
        """Point 95: the good trees of an automaton that such a judge does, and fewer of them."""
        told = 0
        closed = [(least, automaton) for least, automaton in LOOKS if least is not None and least < 4]
        for least, (arities, flags, steps) in closed + [(1, automaton) for automaton in looking_automata(906, 1)
                                                        if is_closed(automaton, 1)]:
            for fewer in itertools.product((False, True), repeat=len(flags)):
                if fewer != flags and not any(one and not flag for one, flag in zip(fewer, flags)):
                    for tree in some_trees(arities)[:60]:
                        if is_let_in((arities, fewer, steps), least, tree):
                            told += not good((arities, fewer, steps), tree)
                            self.assertTrue(good((arities, flags, steps), tree))
        self.assertGreater(told, 100)

    def test_no_states_or_all_states_good(self):
        """Point 101."""
        chance = random.Random(907)
        for arities in BRANCHING + [(0,), (0, 1)]:
            steps = random_automaton(chance, arities, 4)[2]
            for depth in (1, 2, 12):
                for tree in all_trees(arities, 4)[:10]:
                    self.shows((is_let_in((arities, (True,) * 4, steps), depth, tree),
                                is_let_in((arities, (False,) * 4, steps), depth, tree)), "(True, False)")
                    self.shows(sets_along((arities, (False,) * 4, steps), depth, tree), "(((), ()),)")
            for depth in (1, 2):
                self.shows((first_extra((arities, (True,) * 4, steps), depth),
                            first_extra((arities, (False,) * 4, steps), depth)), "(None, None)")

    def test_good_states_that_no_tree_has(self):
        automaton = ((0, 2), (False, True), (0, ((0, 0), (0, 1))))
        self.shows((sets_along(automaton, 1, (0,)), is_let_in(automaton, 1, (0,)), first_extra(automaton, 1)),
                   "((((), ()),), False, None)")
        more = ((0, 0, 2), (True, False, True), (0, 1, ((0, 1, 1), (1, 0, 0), (2, 2, 2))))
        self.shows(sets_along(more, 1, (2, (0,), (1,))), "(((), (0,)), ((0,), (0, 1)), ((1,), (0, 1)))")


class Extra(Case):
    def test_the_first_tree_of_all(self):
        """Point 97, against a search through all small trees."""
        sizes = {1: set(), 2: set()}
        for automaton in looking_automata(908, 2):
            trees = some_trees(automaton[0], 2 if automaton[0] in ((0, 2), (2, 0)) else 0)
            for depth in (1, 2):
                found = [tree for tree in trees
                         if not good(automaton, tree) and is_plainly_let_in(automaton, depth, tree)]
                try:
                    told = first_extra(automaton, depth)
                except TooLarge:
                    self.assertEqual((found, is_closed(automaton, depth)), ([], False))
                    continue
                self.same(told is None, is_closed(automaton, depth))
                if told is None:
                    self.assertEqual(found, [])
                    continue
                sizes[depth].add(nodes(told))
                self.assertTrue(not good(automaton, told) and is_plainly_let_in(automaton, depth, told))
                if found:
                    self.same(told, found[0])
                else:
                    self.assertGreater(nodes(told), nodes(trees[-1]))
        self.assertLessEqual({3, 4, 5, 6, 7}, sizes[1])
        self.assertLessEqual({5, 6, 7, 8}, sizes[2])

    def test_trees_of_15_and_16_nodes(self):
        for depth, size, automaton in EXTRA:
            self.shows(is_closed(automaton, depth), "False")
            if size > 15:
                self.too_large("tree", first_extra, automaton, depth)
            else:
                self.assertEqual(nodes(first_extra(automaton, depth)), size)
            if automaton[0] == (0, 2):
                found = [tree for tree in all_trees((0, 2), 15)
                         if not good(automaton, tree) and is_plainly_let_in(automaton, depth, tree)]
                self.assertEqual(found == [], size > 15)
                if found:
                    self.same(first_extra(automaton, depth), found[0])

    def test_of_one_size_the_first(self):
        self.shows(first_extra(SWAP, 1), "(2, (0,), (0,))")
        turned = ((2, 0, 0), SWAP[1], (SWAP[2][2], 1, 0))
        self.shows(first_extra(turned, 1), "(0, (1,), (1,))")
        self.shows((first_extra(CHAINS, 1), first_extra(CHAINS, 2)),
                   "((2, (0,), (0,)), (2, (3, (0,)), (3, (0,))))")

    def test_looks(self):
        """Point 96."""
        for least, automaton in LOOKS:
            for depth in (1, 2):
                self.same(first_extra(automaton, depth) is None, least is not None and least <= depth)

    def test_automata_of_1_and_4_states_and_no_trees(self):
        for automaton in (NO_TREES, ((0, 2), (True,), (0, ((0,),))), ((0, 2), (False,), (0, ((0,),))),
                          ((0, 1), (True, False, True, False), (0, (1, 2, 3, 0)))):
            self.shows((first_extra(automaton, 1), first_extra(automaton, 2)), "(None, None)")
        self.shows((first_extra(PARITY, 1), first_extra(ODD, 1)),
                   "((1, (0,), (1, (0,), (0,))), (1, (0,), (0,)))")


class WrongArguments(Case):
    AUTOMATON = ("automaton", helpers.WRONG_AUTOMATA)

    def test_each_is_refused_by_its_name_and_the_first_of_several(self):
        """Points 8 and 102."""
        rest = [("depth", helpers.wrong_integers(1, 12)), ("tree", helpers.WRONG_TREES)]
        self.refuses_in_order(sets_along, (MIXED, 1, (0,)), [self.AUTOMATON] + rest)
        self.refuses_in_order(is_let_in, (MIXED, 12, (0,)), [self.AUTOMATON] + rest)
        self.refuses_in_order(first_extra, (MIXED, 2), [self.AUTOMATON, ("depth", helpers.wrong_integers(1, 2))])

    def test_no_tree_without_a_leaf(self):
        self.bad("tree", sets_along, NO_TREES, 1, (0,))
        self.bad("tree", is_let_in, NO_TREES, 1, (0, (0,)))

    def test_wrong_values_go_ahead_of_what_is_too_large(self):
        depth, _, automaton = EXTRA[-1]
        self.bad("automaton", first_extra, automaton[:2], depth)
        self.bad("depth", first_extra, automaton, 3)
        self.too_large("tree", first_extra, automaton, depth)

    def test_equal_calls_return_equal_results(self):
        for _ in range(2):
            self.shows(sets_along(SWAP, 2, (2, (0,), (1,))), "(((), (2,)), ((0,), (0,)), ((1,), (1,)))")
            self.shows(first_extra(SWAP, 1), "(2, (0,), (0,))")
            self.shows(is_let_in(SWAP, 1, (2, (0,), (0,))), "True")


if __name__ == "__main__":
    unittest.main()
