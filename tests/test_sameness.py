"""Whether two tables take the same trees: points 53 to 55, 57 and 58, and rootfirst/sameness.py."""

import itertools
import random
import unittest

from rootfirst.sameness import accepts_same, same_evidence, telling_tree
from rootfirst.topdown import run, takers
from tests import helpers
from tests.helpers import DEEP, DEEP_LIST, Case, all_trees, changed, is_set_of, nodes, random_table, takers_behind

EVEN, ALL_OF = (0, (((), (1,)), (None, (0,)))), (0, (((), (0,)),))
FOUR = (0, (((), (1,)), (None, (2,)), ((), (3,)), (None, (0,))))
NO_LEAF, FAILING = (0, (((0,),),)), (0, ((None,),))
MIXED = (0, 1, 2)
TABLE = (0, (((), None, (0, 1)), ((), (0,), None)))

# Arities with two tables by the size of their telling tree.
TELLING = {
    14: ((0, 1, 2),
         (0, ((None, None, (3, 3)), ((), None, (3, 0)), (None, (1,), (0, 1)), (None, None, (1, 2)))),
         (0, ((None, None, (3, 3)), ((), None, (3, 1)), (None, (1,), (0, 1)), (None, None, (1, 2))))),
    15: ((0, 1, 2),
         (1, ((None, (0,), (1, 1)), (None, (3,), (3, 3)), (None, None, None), ((), None, (2, 1)))),
         (1, ((None, (0,), (1, 1)), (None, (3,), (3, 3)), (None, None, (0, 0)), ((), None, (2, 1))))),
    16: ((0, 1, 2),
         (0, ((None, None, (2, 2)), (None, (0,), (1, 3)), (None, (3,), (0, 2)), ((), (3,), (0, 1)))),
         (0, ((None, None, (2, 2)), (None, (0,), None), (None, (3,), (0, 2)), ((), (3,), None)))),
    17: ((0, 2),
         (1, (((), (2, 1)), (None, (0, 3)), (None, (0, 1)), (None, (0, 0)))),
         (1, (((), None), (None, (0, 3)), (None, (0, 1)), (None, (0, 0))))),
    31: ((0, 2, 2),
         (2, (((), (1, 3), (2, 0)), (None, (0, 0), (2, 2)), (None, (3, 1), None), (None, (3, 1), (1, 1)))),
         (2, (((), (1, 3), (2, 0)), (None, (0, 0), None), (None, (3, 1), None), (None, (3, 1), (1, 1))))),
}

# The sizes of telling trees with two tables for the arities (0, 2).
LARGE = [
    (9, (3, (((), (2, 0)), (None, (2, 3)), ((), (1, 3)), ((), (1, 2)))),
     (3, (((), (2, 0)), (None, (2, 3)), ((), None), ((), (1, 2))))),
    (11, (1, ((None, (2, 3)), (None, (0, 2)), ((), None), ((), None))),
     (1, ((None, (2, 3)), (None, (0, 2)), ((), (1, 2)), ((), None)))),
    (13, (0, (((), (2, 1)), ((), None), (None, (3, 1)), (None, (0, 1)))),
     (0, (((), (2, 1)), ((), (3, 3)), (None, (3, 1)), (None, (0, 1))))),
    (15, (0, ((None, (3, 3)), (None, (0, 3)), ((), (1, 0)), (None, (2, 2)))),
     (0, ((None, (3, 3)), (None, (0, 3)), ((), (2, 0)), (None, (2, 2))))),
    (15, (3, (((), (0, 0)), (None, (0, 3)), (None, (1, 1)), ((), (2, 2)))),
     (2, ((None, None), (None, (2, 3)), ((), (2, 0)), (None, (1, 0))))),
    (15, (0, (((), (3, 3)), ((), (3, 0)), (None, (0, 1)), (None, None))),
     (0, (((), (3, 3)), ((), (3, 0)), (None, (0, 1)), (None, (2, 2))))),
]


def pair_behind(first, second, symbol, chosen):
    return (takers_behind(first, symbol, [pair[0] for pair in chosen]),
            takers_behind(second, symbol, [pair[1] for pair in chosen]))


def pairs_with_sizes(arities, first, second):
    """All pairs of takers, with the least size of a tree that has them."""
    found = {}
    while True:
        before = dict(found)
        for symbol, arity in enumerate(arities):
            for chosen in itertools.product(before, repeat=arity):
                pair = pair_behind(first, second, symbol, chosen)
                size = 1 + sum(before[one] for one in chosen)
                found[pair] = min(size, found.get(pair, size))
        if found == before:
            return found


def is_apart(first, second, pair):
    return (first[0] in pair[0]) != (second[0] in pair[1])


def judged(arities, first, second, value):
    """Point 54, word by word."""
    if type(value) is not tuple or len(value) > 256:
        return False
    for pair in value:
        if type(pair) is not tuple or len(pair) != 2:
            return False
        if not is_set_of(pair[0], len(first[1])) or not is_set_of(pair[1], len(second[1])):
            return False
    if list(value) != sorted(set(value)) or any(is_apart(first, second, pair) for pair in value):
        return False
    return all(
        pair_behind(first, second, symbol, chosen) in value
        for symbol, arity in enumerate(arities) for chosen in itertools.product(value, repeat=arity))


def renumbered(table, order):
    start, rows = table
    turned = [None for _ in rows]
    for number, row in enumerate(rows):
        turned[order[number]] = tuple([
            entry if entry is None else tuple([order[one] for one in entry]) for entry in row])
    return (order[start], tuple(turned))


def couples(seed, times, all_arities=tuple(helpers.MANY_ARITIES)):
    """Arities with two tables: any two, two that differ in one entry, and a table renumbered with a state more."""
    chance = random.Random(seed)
    found = []
    for arities in all_arities:
        for many in (1, 2, 3, 4):
            for _ in range(times):
                first, second = [random_table(chance, arities, many) for _ in range(2)]
                row, symbol = chance.randrange(many), chance.randrange(len(arities))
                rows = [list(one) for one in first[1]]
                rows[row][symbol] = second[1][row][symbol]
                found += [(arities, first, second), (arities, first, (first[0], tuple([tuple(one) for one in rows])))]
                if many < 4:
                    rest = (first[0], first[1] + random_table(chance, arities, many)[1][:1])
                    order = chance.sample(range(many + 1), many + 1)
                    found.append((arities, first, renumbered(rest, order)))
    return found


def small_trees(arities):
    return all_trees(arities, {(0, 2): 15, (0, 1): 15, (1, 0): 15}.get(arities, 5))


class Examples(Case):
    def test_the_interface(self):
        self.shows((telling_tree((0, 1), EVEN, ALL_OF), same_evidence((0, 1), EVEN, EVEN)),
                   "((1, (0,)), (((0,), (0,)), ((1,), (1,))))")
        self.shows((accepts_same((0, 1), EVEN, EVEN, (((0,), (0,)), ((1,), (1,)))),
                    accepts_same((1,), NO_LEAF, FAILING, ())), "(True, True)")


class Telling(Case):
    def test_the_first_tree_of_all(self):
        """Point 53, against a search through all small trees."""
        sizes, same = set(), 0
        for arities, first, second in couples(201, 4):
            apart = [size for pair, size in pairs_with_sizes(arities, first, second).items()
                     if is_apart(first, second, pair)]
            told = telling_tree(arities, first, second)
            trees = [tree for tree in small_trees(arities)
                     if run(arities, first, tree)[0] != run(arities, second, tree)[0]]
            self.same(telling_tree(arities, second, first), told)
            if not apart:
                self.shows((told, trees), "(None, [])")
                same += 1
                continue
            sizes.add(min(apart))
            self.assertEqual(nodes(told), min(apart))
            self.assertNotEqual(run(arities, first, told)[0], run(arities, second, told)[0])
            if trees:
                self.same(told, trees[0])
            else:
                self.assertGreater(nodes(told), 5)
        self.assertGreater(len(sizes), 4)
        self.assertGreater(same, 50)

    def test_of_trees_of_one_size_the_first(self):
        """All trees of the size 3 with the symbol 2 at the root are told apart: the first has the leaves 0 and 0."""
        both, none = (0, (((), (), (0, 0)),)), (0, (((), (), None),))
        self.shows(telling_tree((0, 0, 2), both, none), "(2, (0,), (0,))")
        self.shows(telling_tree((2, 0, 0), (0, (((0, 0), (), ()),)), (0, ((None, (), ()),))), "(0, (1,), (1,))")

    def test_trees_of_15_and_of_more_nodes(self):
        for size, (arities, first, second) in TELLING.items():
            apart = [least for pair, least in pairs_with_sizes(arities, first, second).items()
                     if is_apart(first, second, pair)]
            self.assertEqual(min(apart), size)
            self.shows(same_evidence(arities, first, second), "None")
            if size > 15:
                self.too_large("tree", telling_tree, arities, first, second)
                self.too_large("tree", telling_tree, arities, second, first)
            else:
                told = telling_tree(arities, first, second)
                self.assertEqual(nodes(told), size)
                self.assertNotEqual(run(arities, first, told)[0], run(arities, second, told)[0])
                self.same(telling_tree(arities, second, first), told)

    def test_large_ones_against_all_trees(self):
        """Of one leaf and one symbol with two children there are 626 trees of at most 15 nodes."""
        for size, first, second in LARGE:
            trees = [tree for tree in small_trees((0, 2))
                     if run((0, 2), first, tree)[0] != run((0, 2), second, tree)[0]]
            self.assertEqual(nodes(trees[0]), size)
            self.same(telling_tree((0, 2), first, second), trees[0])
            self.same(telling_tree((0, 2), second, first), trees[0])

    def test_tables_of_1_and_4_states(self):
        self.shows((telling_tree((0, 1), FOUR, EVEN), telling_tree((0, 1), EVEN, FOUR)), "(None, None)")
        self.shows((telling_tree((0,), (0, (((),),)), FAILING), telling_tree((0,), FAILING, FAILING)), "((0,), None)")
        self.shows(telling_tree((0, 1), (1, FOUR[1]), EVEN), "(0,)")

    def test_no_trees(self):
        for arities, first, second in [((1,), NO_LEAF, FAILING), ((1,), FAILING, FAILING),
                                       ((2,), (0, (((0, 0),),)), (1, ((None,), (None,))))]:
            self.shows((telling_tree(arities, first, second), same_evidence(arities, first, second)), "(None, ())")

    def test_what_is_not_received_tells_nothing(self):
        """Points 52 and 53."""
        self.shows(telling_tree((0, 1), ALL_OF, (0, ALL_OF[1] + ((None, None),))), "None")
        self.shows(telling_tree((0, 1), ALL_OF, (1, ALL_OF[1] + ((None, None),))), "(0,)")


class Evidence(Case):
    def test_the_least_relation(self):
        """Points 54 and 55: it has just the takers of all trees, and every closed relation has all of its pairs."""
        found = 0
        for arities, first, second in couples(202, 5) + list(TELLING.values()):
            pairs = tuple(sorted(pairs_with_sizes(arities, first, second)))
            same = not any(is_apart(first, second, pair) for pair in pairs)
            self.same(same_evidence(arities, first, second), pairs if same else None)
            self.same(accepts_same(arities, first, second, pairs), same)
            for tree in all_trees(arities, 4):
                self.assertIn((takers(arities, first, tree), takers(arities, second, tree)), pairs)
            if same:
                found += len(pairs) > 2
                for at in range(len(pairs)):
                    self.shows(accepts_same(arities, first, second, pairs[:at] + pairs[at + 1:]), "False")
        self.assertGreater(found, 40)

    def test_all_relations(self):
        """Points 1, 54 and 55: of all relations just the right ones, and only if the tables are the same."""
        told = [0, 0]
        for arities, first, second in couples(203, 2, [(0,), (0, 1), (0, 2), (0, 0, 2), (1,), (2,), (0, 1, 2)]):
            if len(first[1]) > 1 or len(second[1]) > 2:
                continue
            pairs = [(one, other) for one in [(), (0,)] for other in [(), (0,), (0, 1), (1,)]
                     if len(second[1]) > 1 or 1 not in other]
            accepted = False
            for size in range(len(pairs) + 1):
                for value in itertools.combinations(pairs, size):
                    right = accepts_same(arities, first, second, value)
                    self.same(right, judged(arities, first, second, value))
                    accepted = accepted or right
            self.same(accepted, telling_tree(arities, first, second) is None)
            told[accepted] += 1
        self.assertGreater(min(told), 5)

    def test_relations_of_0_and_of_many_pairs(self):
        """All 128 pairs that do not tell the tables apart are evidence, if every symbol leads from them to them."""
        sets = sorted([chosen for many in range(5) for chosen in itertools.combinations(range(4), many)])
        every = tuple([(one, other) for one in sets for other in sets])
        kept = tuple([(one, other) for one, other in every if (0 in one) == (0 in other)])
        one, other = (0, (((0,),), ((2,),), ((1,),), ((3,),))), (0, (((0,),), ((3,),), ((3,),), (None,)))
        self.assertEqual((len(every), len(kept)), (256, 128))
        self.shows(accepts_same((1,), one, other, kept), "True")
        self.shows(accepts_same((1,), one, other, ()), "True")
        self.shows(same_evidence((1,), one, other), "()")
        self.shows(accepts_same((1,), one, other, every), "False")
        self.shows(accepts_same((1,), one, other, kept + (kept[-1],)), "False")
        self.shows(accepts_same((1,), one, other, kept[1:]), "False")
        self.shows(accepts_same((1,), (1, one[1]), (2, one[1]), kept), "False")
        self.shows(accepts_same((1,), FAILING, FAILING, kept), "False")
        self.shows((accepts_same((0, 1), EVEN, EVEN, ()), accepts_same((0,), FAILING, FAILING, ())), "(False, False)")

    def test_many_pairs_with_two_children(self):
        """Each entry names states 0 and 0 alone, so that the pairs that come have 0 in both sets or in none."""
        sets = sorted([chosen for many in range(5) for chosen in itertools.combinations(range(4), many)])
        kept = tuple([(one, other) for one in sets for other in sets if (0 in one) == (0 in other)])
        one = (0, (((), (0, 0)), (None, (3, 3)), ((), (1, 2)), ((), None)))
        other = (0, (((), (0, 0)), ((), (1, 2)), (None, None), (None, (1, 1))))
        self.same(accepts_same((0, 2), one, other, kept), judged((0, 2), one, other, kept))
        self.shows(accepts_same((0, 2), one, other, kept), "True")
        self.shows(accepts_same((0, 2), one, (0, ((None, (0, 0)),) + other[1][1:]), kept), "False")
        self.shows(accepts_same((0, 2), one, (0, (((), None),) + other[1][1:]), kept), "False")

    def test_other_evidence_than_the_program_s_own(self):
        """Closed relations with more pairs than those of trees."""
        self.shows(same_evidence((0, 1), ALL_OF, ALL_OF), "(((0,), (0,)),)")
        self.shows(accepts_same((0, 1), ALL_OF, ALL_OF, (((), ()), ((0,), (0,)))), "True")
        self.shows(accepts_same((0, 1), EVEN, EVEN, (((), ()), ((0,), (0,)), ((1,), (1,)))), "True")
        self.shows(accepts_same((0, 1), EVEN, EVEN, (((0,), (0,)), ((0, 1), (0, 1)), ((1,), (1,)))), "True")
        self.shows(accepts_same((0, 1), EVEN, EVEN, (((0,), (0,)), ((0, 1), (0,)), ((1,), (1,)))), "False")
        self.shows(accepts_same((0, 1), EVEN, EVEN, (((0,), (0,)), ((0,), (1,)), ((1,), (1,)))), "False")

    def test_one_thing_changed(self):
        for arities, first, second in [((0, 1), EVEN, EVEN), ((0, 1), EVEN, FOUR), ((1,), NO_LEAF, FAILING),
                                       ((0, 1), ALL_OF, (1, ((None, None), ((), (1,))))), (MIXED, TABLE, TABLE)]:
            value = same_evidence(arities, first, second)
            self.shows(accepts_same(arities, first, second, value), "True")
            for at, other in enumerate([value] + changed(value)):
                with self.subTest(at=at):
                    self.same(accepts_same(arities, first, second, other), judged(arities, first, second, other))

    def test_what_is_no_evidence(self):
        for value in [None, True, 0, "", [], [((0,), (0,)), ((1,), (1,))], (((0,), (0,)), [(1,), (1,)]),
                      (((0,), (0,)), ((1,), [1])), (((0,), (0,)), ((1,), (1,)), ((1,), (1,))),
                      (((1,), (1,)), ((0,), (0,))), (((0,), (0,)),), (((False,), (0,)), ((1,), (1,))),
                      (((0,), (0,)), ((True,), (1,))), (((0,), (0,)), ((1,), (True,))),
                      (((0,), (0,)), ((1,), (1, 1))), (((0,), (0,)), ((1,), (1,)), ((2,), (2,))),
                      (((-1,), (-1,)), ((0,), (0,)), ((1,), (1,))), (((0,), (0,)), ((1, 0), (1, 0)), ((1,), (1,))),
                      (((0,), (0,)), ((1,), (None,))), ((0, 0), (1, 1)), (((0,), (0,), ()), ((1,), (1,))),
                      DEEP, DEEP_LIST, (DEEP,), (((0,), (0,)), ((1,), DEEP)), (((0,), (0,)), (DEEP_LIST, (1,))),
                      (((0,), (0,)), ((1,), (DEEP,))), (((0,), (0,)), ((1,), (1,))) * 50000]:
            self.shows(accepts_same((0, 1), EVEN, EVEN, value), "False")
        self.shows(accepts_same((0, 1), EVEN, EVEN, (((0,), (0,)), ((1,), (1,)))), "True")


class Turned(Case):
    def test_renumbered_tables_are_the_same(self):
        """Point 57."""
        for arities, table, _ in couples(204, 1):
            for order in list(itertools.permutations(range(len(table[1]))))[-3:]:
                other = renumbered(table, order)
                self.shows(telling_tree(arities, table, other), "None")
                value = same_evidence(arities, table, other)
                self.shows(accepts_same(arities, table, other, value), "True")
                for one, turned in value:
                    self.same(turned, tuple(sorted([order[number] for number in one])))

    def test_what_fails_more_often_takes_no_more(self):
        """Point 57: the telling tree is one that is taken no more."""
        chance = random.Random(205)
        found = 0
        for arities, table, _ in couples(206, 2):
            rows = tuple([tuple([None if chance.random() < 0.3 else entry for entry in row]) for row in table[1]])
            told = telling_tree(arities, table, (table[0], rows))
            if told is not None:
                found += 1
                self.shows((run(arities, table, told)[0], run(arities, (table[0], rows), told)[0]), "(True, False)")
        self.assertGreater(found, 20)


class WrongArguments(Case):
    ARITIES_AND = ("arities", helpers.WRONG_ARITIES)

    def test_each_is_refused_by_its_name_and_the_first_of_several(self):
        """Points 8 and 58."""
        others = [EVEN, NO_LEAF, (0, (((), (0, 0), (0,)),)), (0, (((), (0,), (0, 0), ()),))]
        tables = [("first", helpers.WRONG_TABLES + others), ("second", helpers.WRONG_TABLES + others)]
        self.refuses_in_order(telling_tree, (MIXED, TABLE, TABLE), [self.ARITIES_AND] + tables)
        self.refuses_in_order(same_evidence, (MIXED, TABLE, TABLE), [self.ARITIES_AND] + tables)
        self.refuses_in_order(accepts_same, (MIXED, TABLE, TABLE, ()), [self.ARITIES_AND] + tables)

    def test_wrong_values_go_ahead_of_what_is_too_large(self):
        arities, first, second = TELLING[31]
        self.bad("arities", telling_tree, (0, 2, 3), first, second)
        self.bad("first", telling_tree, arities, EVEN, second)
        self.bad("second", telling_tree, arities, first, None)
        self.too_large("tree", telling_tree, arities, first, second)

    def test_the_judge_refuses_arguments_ahead_of_any_value(self):
        self.bad("arities", accepts_same, None, None, None, None)
        self.bad("first", accepts_same, (0, 1), None, EVEN, DEEP)
        self.bad("second", accepts_same, (0, 1), EVEN, None, DEEP)

    def test_arguments_stay_and_equal_calls_return_equal_results(self):
        value = [[[0], [0]], [[1], [1]]]
        for _ in range(2):
            self.shows(accepts_same((0, 1), EVEN, EVEN, value), "False")
            self.shows(same_evidence((0, 1), EVEN, EVEN), "(((0,), (0,)), ((1,), (1,)))")
            self.shows(telling_tree((0, 1), EVEN, ALL_OF), "(1, (0,))")
        self.assertEqual(value, [[[0], [0]], [[1], [1]]])


if __name__ == "__main__":
    unittest.main()
