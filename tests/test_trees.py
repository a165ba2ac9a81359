"""Arities, trees, places and grafts: points 4 to 7 and 9 to 18, and rootfirst/trees.py."""

import unittest

from rootfirst.trees import (
    are_equal_along, are_equal_to, equal_depth, graft, is_arities, is_before, is_place, is_tree, part, places, put,
    sizes,
)
from tests import helpers
from tests.helpers import Case, alike, alike_along, all_places, all_trees, at_place, exchanged, levels, nodes

ARITIES = (0, 0, 2)
MIXED = (0, 1, 2)
ONE, OTHER = (2, (0,), (1,)), (2, (2, (0,), (0,)), (1,))
SMALL = all_trees(ARITIES, 5)
SMALL_MIXED = all_trees(MIXED, 5)


class Examples(Case):
    def test_the_interface(self):
        self.shows((sizes(ARITIES, OTHER), places(ARITIES, ONE), part(ARITIES, OTHER, (0, 1)),
                    part(ARITIES, ONE, (0, 1)) is None), "((5, 3), [(), (0,), (1,)], (0,), True)")
        self.shows((put(ARITIES, ONE, (1,), OTHER), is_before(ARITIES, ONE, OTHER), is_before(ARITIES, OTHER, ONE)),
                   "((2, (0,), (2, (2, (0,), (0,)), (1,))), True, False)")
        self.shows((are_equal_to(ARITIES, ONE, OTHER, 1), are_equal_to(ARITIES, ONE, OTHER, 2),
                    equal_depth(ARITIES, ONE, OTHER), equal_depth(ARITIES, ONE, ONE) is None),
                   "(True, False, 1, True)")
        self.shows((are_equal_along(ARITIES, ONE, OTHER, (0,), 1), are_equal_along(ARITIES, ONE, OTHER, (1,), 2),
                    are_equal_along(ARITIES, ONE, OTHER, (), 9)), "(True, False, True)")
        self.shows((graft(ARITIES, ONE, OTHER, (0,)), graft(ARITIES, OTHER, ONE, (0,)),
                    is_tree(ARITIES, (2, (0,)))),
                   "((2, (2, (0,), (0,)), (1,)), (2, (0,), (1,)), False)")

    def test_point_18(self):
        first, second = (2, (0,), (1,)), (2, (1,), (1,))
        self.shows(are_equal_to(ARITIES, first, second, 1), "True")
        self.shows(are_equal_to(ARITIES, first, second, 2), "False")
        self.shows(are_equal_along(ARITIES, first, second, (0,), 1), "True")


class Forms(Case):
    def test_arities(self):
        """Point 5: 1 to 4 integers from 0 to 2; a symbol of the arity 0 is not asked for."""
        for value in [(0,), (1,), (2,), (0, 0), (2, 1), (0, 1, 2), (0, 0, 0, 0), (2, 2, 2, 2), (1, 2, 1, 2)]:
            self.shows(is_arities(value), "True")
        for number, value in enumerate(helpers.WRONG_ARITIES):
            with self.subTest(number=number):
                self.shows(is_arities(value), "False")

    def test_trees(self):
        for tree in SMALL_MIXED:
            self.shows(is_tree(MIXED, tree), "True")
        for number, value in enumerate(helpers.WRONG_TREES):
            with self.subTest(number=number):
                self.shows(is_tree(MIXED, value), "False")

    def test_trees_of_1_15_and_16_nodes(self):
        self.shows(is_tree((0,), (0,)), "True")
        self.shows(is_tree((0, 1), helpers.nested_tree(14)), "True")
        self.shows(is_tree((0, 1), helpers.nested_tree(15)), "False")
        full = helpers.perfect_tree(4)
        self.shows(is_tree(MIXED, full), "True")
        self.shows(is_tree(MIXED, (1, full)), "False")
        self.shows(is_tree(MIXED, exchanged(full, (1, 1, 1), (1, (0,)))), "False")

    def test_trees_for_few_and_many_arities(self):
        self.shows(is_tree((0,), (1,)), "False")
        self.shows(is_tree((0, 0, 0, 2), (3, (1,), (2,))), "True")
        self.shows(is_tree((0, 0, 0, 2), (3, (1,), (3,))), "False")

    def test_arities_without_a_leaf_have_no_trees(self):
        for arities in [(1,), (2,), (1, 2), (2, 2, 2, 1)]:
            for value in [(0,), (1,), (0, (0,)), (0, (0,), (0,)), helpers.nested_tree(20), helpers.DEEP, None]:
                self.shows(is_tree(arities, value), "False")

    def test_no_other_tuple_of_few_nodes_is_a_tree(self):
        """Of all nested tuples of up to 3 nodes with the symbols -1 to 3, just those of point 5 are trees."""
        heads = [-1, 0, 1, 2, 3]
        small = [(head,) for head in heads]
        more = [(head, one) for head in heads for one in small]
        more += [(head, one, other) for head in heads for one in small for other in small]
        more += [(head, (low, one)) for head in heads for low in heads for one in small]
        right = all_trees(MIXED, 3)
        for value in small + more:
            self.shows(is_tree(MIXED, value), repr(value in right))

    def test_the_arities_are_not_checked_by_is_tree(self):
        self.shows(is_tree((0, 0, 0, 0, 2), (4, (3,), (2,))), "True")

    def test_places(self):
        """Point 9: 0 to 14 integers, each 0 or 1."""
        for value in [(), (0,), (1,), (0, 1), (1, 1, 0), (0,) * 14, (1,) * 14]:
            self.shows(is_place(value), "True")
        for number, value in enumerate(helpers.WRONG_PLACES):
            with self.subTest(number=number):
                self.shows(is_place(value), "False")
        self.shows(is_place((1,) * 15), "False")


class SizesAndOrder(Case):
    def test_sizes(self):
        """Point 6."""
        for arities, trees in ((ARITIES, SMALL), (MIXED, SMALL_MIXED)):
            for tree in trees:
                self.same(sizes(arities, tree), (nodes(tree), levels(tree)))
        self.shows(sizes((0,), (0,)), "(1, 1)")
        self.shows(sizes((0, 1), helpers.nested_tree(14)), "(15, 15)")
        self.shows(sizes(ARITIES, helpers.perfect_tree(4)), "(15, 4)")
        self.shows(sizes(MIXED, (2, (0,), (1, (1, (0,))))), "(5, 4)")
        self.shows(sizes(MIXED, (2, (1, (1, (0,))), (0,))), "(5, 4)")

    def test_places_in_order(self):
        """Points 6 and 9: as many as the size, and the symbols at them are those of point 7."""
        for arities, trees in ((ARITIES, SMALL), (MIXED, SMALL_MIXED)):
            for tree in trees:
                told = places(arities, tree)
                self.same(told, all_places(tree))
                self.assertEqual(told, sorted(set(told)))
                self.assertEqual(len(told), nodes(tree))
                self.assertEqual([part(arities, tree, place)[0] for place in told], helpers.symbols(tree))
        self.same(places((0, 1), helpers.nested_tree(14)), [(0,) * many for many in range(15)])
        self.shows(places(ARITIES, (2, (2, (0,), (1,)), (1,))), "[(), (0,), (0, 0), (0, 1), (1,)]")

    def test_the_order_of_trees(self):
        """Point 7: by size, then by symbols, also where the first children differ in size."""
        for arities, trees in ((ARITIES, SMALL), (MIXED, SMALL_MIXED)):
            for at, first in enumerate(trees):
                for number, second in enumerate(trees):
                    self.shows(is_before(arities, first, second), repr(at < number))

    def test_the_size_goes_ahead_of_the_symbols(self):
        self.shows(is_before(ARITIES, (1,), (2, (0,), (0,))), "True")
        self.shows(is_before((2, 0, 0), (0, (1,), (1,)), (2,)), "False")
        self.shows(is_before((2, 0, 0), (2,), (0, (1,), (1,))), "True")
        low, high = (2, (1, (1, (1, (0,)))), (0,)), (2, (1, (0,)), (1, (1, (0,))))
        self.shows((is_before(MIXED, low, high), is_before(MIXED, high, low)), "(False, True)")


class Parts(Case):
    def test_part(self):
        tried = all_places(helpers.perfect_tree(4)) + [(0,) * 14, (1,) * 14]
        for tree in SMALL_MIXED:
            for place in tried:
                self.same(part(MIXED, tree, place), at_place(tree, place))
        self.shows(part((0, 1), helpers.nested_tree(14), (0,) * 14), "(0,)")
        self.shows(part((0, 1), helpers.nested_tree(14), (0,) * 13 + (1,)), "None")
        self.same(part((0, 1), helpers.nested_tree(14), ()), helpers.nested_tree(14))

    def test_put(self):
        """Point 10."""
        for tree in SMALL:
            for other in SMALL[:8]:
                for place in all_places(tree):
                    come = put(ARITIES, tree, place, other)
                    self.same(come, exchanged(tree, place, other))
                    self.assertEqual(nodes(come), nodes(tree) + nodes(other) - nodes(at_place(tree, place)))

    def test_put_up_to_15_nodes_and_not_more(self):
        chain = helpers.nested_tree(7)
        self.same(put((0, 1), chain, (0,) * 7, chain), helpers.nested_tree(14))
        self.too_large("tree", put, (0, 1), chain, (0,) * 7, helpers.nested_tree(8))
        full = helpers.perfect_tree(4)
        self.same(put(MIXED, full, (), (0,)), (0,))
        self.same(put(MIXED, (0,), (), full), full)
        self.too_large("tree", put, MIXED, full, (0, 0, 0), (1, (0,)))
        self.too_large("tree", put, MIXED, full, (1, 1, 1), full)
        self.same(put(MIXED, full, (0, 0, 0), (0,)), full)

    def test_put_at_no_place_of_the_tree(self):
        self.not_possible("place", put, ARITIES, ONE, (0, 0), ONE)
        self.not_possible("place", put, (0, 1), (1, (0,)), (1,), (0,))
        self.not_possible("place", put, ARITIES, (0,), (0,), ONE)
        self.not_possible("place", put, (0, 1), helpers.nested_tree(13), (0,) * 14, (0,))
        self.same(put((0, 1), helpers.nested_tree(14), (0,) * 14, (0,)), helpers.nested_tree(14))
        self.not_possible("place", put, ARITIES, helpers.perfect_tree(4), (0, 0, 0, 0), helpers.perfect_tree(4))


class EqualToADepth(Case):
    def test_all_pairs_of_small_trees(self):
        """Points 11 and 16."""
        for arities, trees in ((ARITIES, SMALL), (MIXED, SMALL_MIXED)):
            for first in trees:
                for second in trees:
                    told = [are_equal_to(arities, first, second, depth) for depth in range(8)]
                    self.same(told, [alike(first, second, depth) for depth in range(8)])
                    self.assertEqual(told, sorted(told, reverse=True))
                    greatest = equal_depth(arities, first, second)
                    if first == second:
                        self.assertIsNone(greatest)
                        self.assertTrue(all(told))
                    else:
                        self.same(greatest, max(depth for depth in range(8) if told[depth]))
                        self.assertLess(greatest, min(levels(first), levels(second)))
                    self.assertEqual(told[levels(first)], first == second)

    def test_depths_0_and_15(self):
        chain = helpers.nested_tree(14)
        arities = (0, 1, 0)
        other = exchanged(chain, (0,) * 14, (2,))
        self.shows(are_equal_to(arities, (0,), (2,), 0), "True")
        self.shows(are_equal_to(arities, (0,), (2,), 1), "False")
        self.shows(are_equal_to(arities, chain, chain, 15), "True")
        self.shows(are_equal_to(arities, chain, other, 15), "False")
        self.shows(are_equal_to(arities, chain, other, 14), "True")
        self.shows(equal_depth(arities, chain, other), "14")
        self.shows(equal_depth(arities, chain, (0,)), "0")
        self.shows(equal_depth(arities, chain, chain), "None")

    def test_the_least_depth_of_several_children_counts(self):
        first = (2, (2, (0,), (0,)), (0,))
        self.shows(equal_depth(ARITIES, first, (2, (2, (0,), (1,)), (0,))), "2")
        self.shows(equal_depth(ARITIES, first, (2, (2, (0,), (1,)), (1,))), "1")
        self.shows(equal_depth(ARITIES, (2, (0,), first), (2, (0,), (2, (2, (0,), (0,)), (1,)))), "2")

    def test_along_a_path(self):
        """Point 12, for all pairs of small trees, and all places of both."""
        for arities, trees in ((ARITIES, SMALL), (MIXED, SMALL_MIXED[:40])):
            for first in trees:
                for second in trees:
                    for place in all_places(first):
                        if at_place(second, place) is None:
                            self.not_possible("place", are_equal_along, arities, first, second, place, 0)
                            continue
                        for depth in range(5):
                            told = are_equal_along(arities, first, second, place, depth)
                            self.same(told, alike_along(first, second, place, depth))

    def test_along_the_empty_place_nothing_is_asked(self):
        for depth in range(16):
            self.shows(are_equal_along(ARITIES, (0,), ONE, (), depth), "True")

    def test_along_a_place_with_14_numbers(self):
        chain = helpers.nested_tree(14)
        other = exchanged(chain, (0,) * 14, (2,))
        arities, place = (0, 1, 0), (0,) * 14
        self.shows(are_equal_along(arities, chain, other, place, 1), "True")
        self.shows(are_equal_along(arities, chain, other, place, 2), "False")
        self.shows(are_equal_along(arities, chain, other, place[:13], 2), "True")
        self.shows(are_equal_along(arities, chain, other, place[:13], 3), "False")
        self.shows(are_equal_along(arities, chain, chain, place, 15), "True")

    def test_both_trees_must_have_the_place(self):
        self.not_possible("place", are_equal_along, ARITIES, ONE, (0,), (0,), 3)
        self.not_possible("place", are_equal_along, ARITIES, (0,), ONE, (0,), 3)
        self.not_possible("place", are_equal_along, ARITIES, (0,), (0,), (1,), 0)


class Grafts(Case):
    def both_have(self, trees):
        for first in trees:
            for second in trees:
                for place in all_places(first):
                    if at_place(second, place) is not None:
                        yield first, second, place

    def test_all_grafts_of_small_trees(self):
        """Points 13 and 15."""
        for first, second, place in self.both_have(SMALL):
            come = graft(ARITIES, first, second, place)
            self.same(come, exchanged(first, place, at_place(second, place)))
            back = graft(ARITIES, second, first, place)
            self.assertEqual(nodes(come) + nodes(back), nodes(first) + nodes(second))
            self.same(graft(ARITIES, first, first, place), first)
            if place == ():
                self.same(come, second)

    def test_what_looks_alike_along_the_path(self):
        """Point 14: the parts are equal to one level less, and the graft looks like the first tree."""
        for first, second, place in self.both_have(SMALL):
            come = graft(ARITIES, first, second, place)
            for depth in range(1, 4):
                if place and are_equal_along(ARITIES, first, second, place, depth):
                    one, other = part(ARITIES, first, place), part(ARITIES, second, place)
                    self.shows(are_equal_to(ARITIES, one, other, depth - 1), "True")
                    self.shows(are_equal_along(ARITIES, come, first, place, depth), "True")

    def test_at_most_15_nodes(self):
        full, chain = helpers.perfect_tree(4), helpers.nested_tree(7)
        self.same(graft(MIXED, full, full, (0, 1)), full)
        wide = exchanged(full, (0,), (0,))
        self.too_large("tree", graft, MIXED, exchanged(wide, (0,), (1, (0,))), (2, (2, full[1], (0,)), (0,)), (0,))
        self.same(graft((0, 1), chain, helpers.nested_tree(14), (0,) * 7), helpers.nested_tree(14))
        self.same(graft((0, 1), chain, chain, (0,) * 7), chain)
        comb = (2, (0,), (2, (0,), (2, (0,), (2, (0,), (0,)))))
        self.same(nodes(graft(ARITIES, full, (2, comb[2], (1,)), (0,))), 15)
        self.too_large("tree", graft, ARITIES, full, (2, comb, (1,)), (0,))
        self.too_large("tree", graft, MIXED, full, (2, (1, full[1]), (0,)), (0,))

    def test_both_trees_must_have_the_place(self):
        self.not_possible("place", graft, ARITIES, ONE, (0,), (0,))
        self.not_possible("place", graft, ARITIES, (0,), ONE, (0,))
        self.not_possible("place", graft, ARITIES, ONE, ONE, (0,) * 14)


class WrongArguments(Case):
    ARITIES_AND = ("arities", helpers.WRONG_ARITIES)
    PLACE = ("place", helpers.WRONG_PLACES)
    DEPTH = ("depth", helpers.wrong_integers(0, 15))

    def tree(self, name):
        return (name, helpers.WRONG_TREES)

    def test_each_is_refused_by_its_name_and_the_first_of_several(self):
        """Points 8 and 17."""
        tree = (2, (0,), (0,))
        first, second = self.tree("first"), self.tree("second")
        for function, rights, wrongs in [
            (sizes, (MIXED, tree), [self.tree("tree")]),
            (places, (MIXED, tree), [self.tree("tree")]),
            (part, (MIXED, tree, ()), [self.tree("tree"), self.PLACE]),
            (put, (MIXED, tree, (0,), tree), [self.tree("tree"), self.PLACE, self.tree("other")]),
            (is_before, (MIXED, tree, tree), [first, second]),
            (are_equal_to, (MIXED, tree, tree, 0), [first, second, self.DEPTH]),
            (equal_depth, (MIXED, tree, tree), [first, second]),
            (are_equal_along, (MIXED, tree, tree, (0,), 0), [first, second, self.PLACE, self.DEPTH]),
            (graft, (MIXED, tree, tree, (0,)), [first, second, self.PLACE]),
        ]:
            self.refuses_in_order(function, rights, [self.ARITIES_AND] + wrongs)

    def test_trees_for_other_arities_are_refused(self):
        self.bad("tree", sizes, (0, 1), ONE)
        self.bad("second", graft, (0, 0, 1), (0,), ONE, ())
        self.bad("tree", places, (1,), (0,))
        self.bad("first", equal_depth, (2, 2), (0,), (0,))

    def test_wrong_values_go_ahead_of_what_is_not_possible(self):
        """Points 8 and 17: BadValue, then NotPossible, then TooLarge."""
        full = helpers.perfect_tree(4)
        self.bad("other", put, MIXED, full, (0, 0, 0, 0), None)
        self.bad("depth", are_equal_along, MIXED, (0,), full, (0,), 16)
        self.bad("second", are_equal_along, MIXED, (0,), (3,), (0,), 16)
        self.not_possible("place", put, MIXED, full, (0, 0, 0, 0), full)
        self.bad("place", graft, MIXED, (0,), full, (0,) * 15)
        self.not_possible("place", graft, MIXED, (0,), full, (0,) * 14)

    def test_arguments_stay(self):
        rows = [0, [0], [1]]
        self.bad("tree", places, MIXED, rows)
        self.assertEqual(rows, [0, [0], [1]])
        arities = [0, 1, 2]
        self.bad("arities", places, arities, (0,))
        self.assertEqual(arities, [0, 1, 2])
        self.shows(is_tree(MIXED, rows), "False")
        self.assertEqual(rows, [0, [0], [1]])

    def test_returned_lists_are_new(self):
        """Point 2."""
        told = places(ARITIES, ONE)
        told.append(5)
        told[0] = None
        self.shows(places(ARITIES, ONE), "[(), (0,), (1,)]")


if __name__ == "__main__":
    unittest.main()
