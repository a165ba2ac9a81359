"""Tables that judge from the root on: points 49 to 52 and 56 to 59, and rootfirst/topdown.py."""

import itertools
import random
import unittest

from rootfirst.topdown import is_table, received, run, takers
from tests import helpers
from tests.helpers import WRONG_TABLES, Case, all_places, all_trees, at_place, exchanged, many_tables, random_table

ARITIES = (0, 0, 2)
TABLE = (0, (((), None, (0, 1)), (None, (), None)))
MIXED = (0, 1, 2)
# State 0 hands 1 to the only child, and 2 and 0 to two; 1 takes all; 2 takes the leaf alone.
THREE = (0, (((), (1,), (2, 0)), ((), (1,), (1, 1)), ((), None, None)))
ALL_OF = (0, (((), (0,), (0, 0)),))
NO_LEAF = (0, (((0,), (0, 0)),))


def given(table, tree):
    """The state of each place of the tree, or "nothing", told from its parent's."""
    told = {}
    for place in all_places(tree):
        if place == ():
            told[place] = table[0]
        else:
            above = told[place[:-1]]
            entry = None if above == "nothing" else table[1][above][at_place(tree, place[:-1])[0]]
            told[place] = "nothing" if entry is None else entry[place[-1]]
    return told


class Examples(Case):
    def test_the_interface(self):
        self.shows(run(ARITIES, TABLE, (2, (0,), (1,))), "(True, None, (((), 0), ((0,), 0), ((1,), 1)))")
        self.shows(run(ARITIES, TABLE, (2, (1,), (0,))), "(False, (0,), (((), 0), ((0,), 0), ((1,), 1)))")
        self.shows((takers(ARITIES, TABLE, (1,)), takers(ARITIES, TABLE, (2, (0,), (0,))), received(ARITIES, TABLE)),
                   "((1,), (), (0, 1))")

    def test_point_59(self):
        """Just the trees are taken whose first leaf is 0 and whose every second child is the leaf 1."""
        for tree in all_trees(ARITIES, 7):
            first = helpers.symbols(tree)
            seconds = [at_place(tree, place) for place in all_places(tree) if place[-1:] == (1,)]
            wanted = [one for one in first if one != 2][0] == 0 and all(part == (1,) for part in seconds)
            self.same(run(ARITIES, TABLE, tree)[0], wanted)
            self.same(takers(ARITIES, TABLE, tree), ((0,) if wanted else ()) + ((1,) if tree == (1,) else ()))


class Tables(Case):
    def test_right_ones(self):
        """Point 49, with 1 and 4 states, and without a leaf."""
        for arities, table in [(ARITIES, TABLE), (MIXED, THREE), (MIXED, ALL_OF), ((1, 2), NO_LEAF),
                               ((0,), (0, ((None,),))), ((0,), (3, (((),), (None,), ((),), (None,)))),
                               ((2,), (1, (((1, 0),), (None,)))), ((0, 0, 0, 0), (0, (((), None, (), ()),)))]:
            self.shows(is_table(arities, table), "True")
        for arities, table in many_tables(61, 2):
            self.shows(is_table(arities, table), "True")

    def test_wrong_ones(self):
        for number, value in enumerate(WRONG_TABLES):
            with self.subTest(number=number):
                self.shows(is_table(MIXED, value), "False")

    def test_tables_for_other_arities(self):
        self.shows(is_table((0, 1), THREE), "False")
        self.shows(is_table((0, 2, 1), THREE), "False")
        self.shows(is_table((0, 1, 2, 0), THREE), "False")
        self.shows(is_table((1,), (0, (((),),))), "False")
        self.shows(is_table((0,), (0, (((0,),),))), "False")

    def test_each_item_of_a_right_one_is_looked_at(self):
        def plain(value):
            """Point 49, word by word."""
            if type(value) is not tuple or len(value) != 2 or type(value[1]) is not tuple:
                return False
            start, rows = value
            if not 1 <= len(rows) <= 4 or not helpers.is_one_of(start, len(rows)):
                return False
            for row in rows:
                if type(row) is not tuple or len(row) != len(MIXED):
                    return False
                for entry, arity in zip(row, MIXED):
                    if entry is not None and (type(entry) is not tuple or len(entry) != arity or not all(
                            helpers.is_one_of(one, len(rows)) for one in entry)):
                        return False
            return True

        for table in (THREE, ALL_OF):
            for number, value in enumerate(helpers.changed(table)):
                with self.subTest(number=number):
                    self.same(is_table(MIXED, value), plain(value))


class Running(Case):
    def test_runs_of_small_trees(self):
        """Point 50."""
        for arities, table in many_tables(62, 2) + [(ARITIES, TABLE), (MIXED, THREE), (MIXED, ALL_OF)]:
            for tree in all_trees(arities, 5):
                told = given(table, tree)
                visited = [place for place in all_places(tree) if told[place] != "nothing"]
                failing = [place for place in visited if table[1][told[place]][at_place(tree, place)[0]] is None]
                wanted = (not failing, (failing + [None])[0], tuple([(place, told[place]) for place in visited]))
                self.same(run(arities, table, tree), wanted)
                self.assertTrue(failing or len(visited) == helpers.nodes(tree))

    def test_below_a_node_that_fails_nothing_is_visited_and_other_branches_go_on(self):
        tree = (2, (2, (0,), (0,)), (1, (0,)))
        self.shows(run(MIXED, THREE, tree), "(False, (0,), (((), 0), ((0,), 2), ((1,), 0), ((1, 0), 1)))")
        stop = (0, (((), (1,), (1, 1)), (None, None, None)))
        self.shows(run(MIXED, stop, tree), "(False, (0,), (((), 0), ((0,), 1), ((1,), 1)))")
        self.shows(run(MIXED, (1, stop[1]), tree), "(False, (), (((), 1),))")

    def test_the_first_place_that_fails_is_the_least_one(self):
        """(0, 1) comes before (1,), though it stands deeper."""
        table = (0, ((None, None, (0, 0)),))
        self.shows(run(MIXED, table, (2, (2, (2, (0,), (0,)), (0,)), (0,)))[1], "(0, 0, 0)")
        table = (0, (((), None, (0, 1)), (None, (0,), (0, 0))))
        self.shows(run(MIXED, table, (2, (2, (0,), (0,)), (0,)))[:2], "(False, (0, 1))")

    def test_trees_of_1_and_15_nodes(self):
        self.shows(run((0,), (0, (((),),)), (0,)), "(True, None, (((), 0),))")
        self.shows(run((0,), (0, ((None,),)), (0,)), "(False, (), (((), 0),))")
        turn = (0, ((None, (1,)), ((), (0,))))
        chain = helpers.nested_tree(14)
        visited = tuple([((0,) * many, many % 2) for many in range(15)])
        self.same(run((0, 1), turn, chain), (False, (0,) * 14, visited))
        self.same(run((0, 1), (1, turn[1]), chain)[:2], (True, None))
        self.same(takers((0, 1), turn, chain), (1,))
        full = helpers.perfect_tree(4)
        self.same(run(MIXED, ALL_OF, full), (True, None, tuple([(place, 0) for place in all_places(full)])))

    def test_the_start_counts(self):
        tree = (2, (0,), (1,))
        self.shows(run(ARITIES, TABLE, tree)[0], "True")
        self.shows(run(ARITIES, (1, TABLE[1]), tree), "(False, (), (((), 1),))")

    def test_takers_by_runs(self):
        """Point 51."""
        for arities, table in many_tables(63, 2) + [(ARITIES, TABLE), (MIXED, THREE)]:
            rows = table[1]
            for tree in all_trees(arities, 5):
                told = takers(arities, table, tree)
                self.same(told, tuple([one for one in range(len(rows)) if run(arities, (one, rows), tree)[0]]))
                below = [takers(arities, table, child) for child in tree[1:]]
                for number in range(len(rows)):
                    entry = rows[number][tree[0]]
                    handed = entry is not None and all(one in states for one, states in zip(entry, below))
                    self.assertEqual(number in told, handed)

    def test_takers_of_tables_of_1_and_4_states(self):
        self.shows(takers(MIXED, ALL_OF, (1, (0,))), "(0,)")
        four = (0, (((), (1,)), (None, (2,)), (None, (3,)), (None, None)))
        self.shows([takers((0, 1), four, helpers.nested_tree(many)) for many in range(4)], "[(0,), (), (), ()]")
        turned = (0, ((None, (1,)), (None, (2,)), (None, (3,)), ((), (3,))))
        self.shows([takers((0, 1), turned, helpers.nested_tree(many)) for many in range(4)],
                   "[(3,), (2, 3), (1, 2, 3), (0, 1, 2, 3)]")

    def test_received_states(self):
        """Point 52, by the runs of all small trees from the start."""
        for arities, table in many_tables(64, 4) + [(ARITIES, TABLE), (MIXED, THREE)]:
            wanted = set()
            for tree in all_trees(arities, 7):
                wanted |= {one for _, one in run(arities, table, tree)[2]}
            self.same(received(arities, table), tuple(sorted(wanted)))

    def test_received_without_trees(self):
        self.shows(received((1, 2), NO_LEAF), "()")
        self.shows(received((2,), (1, (((1, 0),), (None,)))), "()")
        self.shows(received((0,), (0, ((None,),))), "(0,)")
        self.shows(received((0, 1), (3, (((), (0,)),) * 3 + ((None, (1,)),))), "(0, 1, 3)")

    def test_rows_of_states_that_are_not_received_change_no_run(self):
        """Point 52."""
        chance = random.Random(65)
        for arities, table in many_tables(66, 2):
            many = len(table[1])
            kept = received(arities, table)
            other = random_table(chance, arities, many)[1]
            rows = tuple([table[1][one] if one in kept else other[one] for one in range(many)])
            for tree in all_trees(arities, 5):
                self.same(run(arities, (table[0], rows), tree), run(arities, table, tree))


class Exchange(Case):
    def test_what_is_taken_is_closed_under_exchange(self):
        """Point 56."""
        exchanges = 0
        for arities, table in many_tables(67, 3) + [(ARITIES, TABLE), (MIXED, THREE)]:
            taken = [tree for tree in all_trees(arities, 5) if run(arities, table, tree)[0]][:25]
            for first in taken:
                for second in taken:
                    for place in all_places(first):
                        if at_place(second, place) is not None and helpers.alike_along(first, second, place, 1):
                            come = exchanged(first, place, at_place(second, place))
                            if helpers.nodes(come) <= 15:
                                exchanges += come not in (first, second)
                                self.shows(run(arities, table, come)[0], "True")
        self.assertGreater(exchanges, 100)

    def test_what_fails_more_often_takes_no_more(self):
        """Point 57."""
        chance = random.Random(68)
        for arities, table in many_tables(69, 2):
            rows = tuple([tuple([None if chance.random() < 0.3 else entry for entry in row]) for row in table[1]])
            for tree in all_trees(arities, 5):
                if run(arities, (table[0], rows), tree)[0]:
                    self.shows(run(arities, table, tree)[0], "True")

    def test_renumbered_tables(self):
        """Point 57."""
        for arities, (start, rows) in many_tables(70, 1):
            for order in list(itertools.permutations(range(len(rows))))[-3:]:
                turned = [None for _ in rows]
                for number, row in enumerate(rows):
                    turned[order[number]] = tuple([
                        entry if entry is None else tuple([order[one] for one in entry]) for entry in row])
                other = (order[start], tuple(turned))
                for tree in all_trees(arities, 5):
                    told, seen = run(arities, (start, rows), tree), run(arities, other, tree)
                    self.same(seen[:2], told[:2])
                    self.same(seen[2], tuple([(place, order[one]) for place, one in told[2]]))


class WrongArguments(Case):
    ARITIES_AND = ("arities", helpers.WRONG_ARITIES)
    TABLE = ("table", WRONG_TABLES)
    TREE = ("tree", helpers.WRONG_TREES)

    def test_each_is_refused_by_its_name_and_the_first_of_several(self):
        """Points 8 and 58."""
        tree = (2, (0,), (0,))
        self.refuses_in_order(run, (MIXED, THREE, tree), [self.ARITIES_AND, self.TABLE, self.TREE])
        self.refuses_in_order(takers, (MIXED, THREE, tree), [self.ARITIES_AND, self.TABLE, self.TREE])
        self.refuses_in_order(received, (MIXED, THREE), [self.ARITIES_AND, self.TABLE])
        self.refuses_in_order(is_table, (MIXED, THREE), [self.ARITIES_AND])

    def test_the_arities_go_ahead_of_any_value(self):
        self.bad("arities", is_table, None, None)
        self.bad("arities", is_table, (3,), helpers.DEEP)

    def test_no_tree_without_a_leaf(self):
        self.bad("tree", run, (1, 2), NO_LEAF, (0, (0,)))
        self.bad("tree", takers, (1, 2), NO_LEAF, (0,))

    def test_arguments_stay_and_equal_calls_return_equal_results(self):
        table = [0, [[[], None, [0, 1]], [None, [], None]]]
        self.shows(is_table(ARITIES, table), "False")
        self.bad("table", received, ARITIES, table)
        self.assertEqual(table, [0, [[[], None, [0, 1]], [None, [], None]]])
        for _ in range(2):
            self.shows(received(ARITIES, TABLE), "(0, 1)")
            self.shows(run(ARITIES, TABLE, (1,)), "(False, (), (((), 0),))")


if __name__ == "__main__":
    unittest.main()
