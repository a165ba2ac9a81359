"""Tables that take exactly the good trees: points 86 to 91, and rootfirst/right.py."""

import itertools
import random
import unittest

from rootfirst.comparing import minimal
from rootfirst.least import is_enough, least_table
from rootfirst.right import accepts_right, right_evidence, wrong_tree
from rootfirst.topdown import is_table, run, takers
from tests import helpers
from tests.helpers import (
    DEEP, DEEP_LIST, SWAP, WRONG_TABLES, Case, all_trees, changed, entry_state, good, is_one_of, is_set_of,
    looking_automata, nodes, random_table, state, table_automaton, taken_by, takers_behind,
)

ONE = ((0, 0, 2), (False, False, True, False), (0, 1, ((3, 2, 3, 3), (3, 3, 3, 3), (3, 3, 3, 3), (3, 3, 3, 3))))
TOLD = ((0, (1,)), (1, (2,)), (2, (0,)), (3, ()))
EVEN, TABLE = ((0, 1), (True, False), (0, (1, 0))), (0, (((), (1,)), (None, (0,))))
MIXED = ((0, 1, 2), (True, False), (0, (1, 0), ((0, 1), (1, 0))))
ALL_OF = (0, (((), (0,), (0, 0)),))
NO_TREES, NO_LEAF = ((1, 2), (True, False), ((1, 0), ((0, 1), (1, 0)))), (0, (((0,), (0, 0)),))

# The sizes of wrong trees, with an automaton and a table.
WRONG = [
    (13, ((0, 2), (True, False, False, False), (0, ((1, 1, 1, 2), (2, 3, 3, 0), (1, 1, 3, 0), (2, 2, 2, 2)))),
     (0, (((), (1, 2)), (None, (3, 3)), (None, (1, 1)), ((), (3, 3))))),
    (13, ((0, 2), (True, True, False, True), (2, ((3, 2, 3, 1), (2, 0, 3, 2), (3, 0, 3, 0), (3, 3, 0, 0)))),
     (0, ((None, (1, 1)), ((), (1, 1))))),
    (15, ((0, 2), (False, False, True, False), (0, ((1, 0, 0, 1), (1, 3, 1, 0), (0, 3, 3, 3), (1, 0, 3, 2)))),
     (0, ((None, (1, 1)), (None, None), (None, (3, 3)), ((), (3, 3))))),
    (15, ((0, 2), (True, False, False, False), (3, ((2, 2, 2, 0), (0, 0, 2, 1), (0, 3, 1, 2), (0, 3, 3, 2)))),
     (0, ((None, None), ((), (1, 1)), ((), (1, 1))))),
    (15, ((0, 2), (True, True, False, False), (3, ((1, 1, 1, 0), (1, 2, 3, 1), (3, 2, 1, 2), (0, 1, 2, 0)))),
     (0, ((None, (1, 1)), ((), (1, 1))))),
    (16, ((0, 1, 2), (False, True, False, False),
          (1, (1, 2, 2, 2), ((0, 2, 0, 3), (0, 2, 3, 3), (1, 2, 2, 2), (1, 2, 2, 1)))),
     (0, (((), None, (1, 1)), (None, None, (0, 2)), (None, (3,), (3, 3)), ((), (3,), (3, 3))))),
    (17, ((0, 2), (True, False, False, False), (2, ((0, 3, 2, 2), (3, 0, 3, 2), (2, 2, 3, 2), (1, 1, 2, 1)))),
     (0, ((None, (1, 1)), (None, (2, 2)), (None, (3, 3)), ((), (3, 3))))),
    (19, ((0, 2), (True, True, False, True), (2, ((1, 0, 0, 2), (0, 3, 1, 0), (0, 0, 0, 3), (1, 2, 3, 3)))),
     (0, ((None, (1, 1)), ((), (1, 1))))),
]


def is_wrong(automaton, table, tree):
    return run(automaton[0], table, tree)[0] != good(automaton, tree)


def judged(automaton, table, value):
    """Points 87 and 88, word by word."""
    if type(value) is not tuple or len(value) > 64:
        return False
    for pair in value:
        if type(pair) is not tuple or len(pair) != 2:
            return False
        if not is_one_of(pair[0], len(automaton[1])) or not is_set_of(pair[1], len(table[1])):
            return False
    if list(value) != sorted(set(value)):
        return False
    for symbol, (arity, entry) in enumerate(zip(automaton[0], automaton[2])):
        for chosen in itertools.product(value, repeat=arity):
            come = (entry_state(entry, [pair[0] for pair in chosen]),
                    takers_behind(table, symbol, [pair[1] for pair in chosen]))
            if come not in value:
                return False
    return all(automaton[1][one] == (table[0] in chosen) for one, chosen in value)


def cases(seed, times):
    """Automata with tables: any ones, the least ones, those with one entry changed, and automata made from tables."""
    chance = random.Random(seed)
    found = []
    for automaton in looking_automata(seed, times):
        found.append((automaton, random_table(chance, automaton[0], chance.choice((1, 2, 3, 4)))))
        least = least_table(automaton)
        if is_table(automaton[0], least):
            found.append((automaton, least))
            rows = [list(row) for row in least[1]]
            row, symbol = chance.randrange(len(rows)), chance.randrange(len(automaton[0]))
            rows[row][symbol] = random_table(chance, automaton[0], len(rows))[1][row][symbol]
            found.append((automaton, (least[0], tuple([tuple(row) for row in rows]))))
    for arities in helpers.MANY_ARITIES:
        for many in (1, 2, 2):
            table = random_table(chance, arities, many)
            found.append((table_automaton(arities, table), table))
            more = (table[0], table[1] + random_table(chance, arities, many)[1][:1])
            found.append((minimal(table_automaton(arities, table)), more))
    return found


def small_trees(arities):
    return all_trees(arities, {(0, 2): 15, (2, 0): 15, (0, 1): 15, (1, 0): 15}.get(arities, 5))


class Examples(Case):
    def test_the_interface(self):
        self.shows((wrong_tree(ONE, least_table(ONE)) is None, wrong_tree(ONE, (0, ((None, (), None),)))),
                   "(True, (1,))")
        self.shows(wrong_tree(SWAP, least_table(SWAP)), "(2, (0,), (0,))")
        self.shows((right_evidence(ONE, least_table(ONE)), right_evidence(SWAP, least_table(SWAP)) is None),
                   "(((0, (1,)), (1, (2,)), (2, (0,)), (3, ())), True)")
        self.shows((accepts_right(ONE, least_table(ONE), TOLD), accepts_right(ONE, least_table(ONE), ())),
                   "(True, False)")


class Wrong(Case):
    def test_the_first_tree_of_all(self):
        """Point 86, against a search through all small trees."""
        kinds = {"right": 0, "taken": 0, "left": 0}
        for automaton, table in cases(801, 2):
            told = wrong_tree(automaton, table)
            found = [tree for tree in small_trees(automaton[0]) if is_wrong(automaton, table, tree)]
            if told is None:
                self.assertEqual(found, [])
                kinds["right"] += 1
                continue
            self.assertTrue(is_wrong(automaton, table, told))
            kinds["left" if good(automaton, told) else "taken"] += 1
            if found:
                self.same(told, found[0])
            else:
                self.assertGreater(nodes(told), 5)
        self.assertGreater(min(kinds.values()), 30)

    def test_trees_of_15_and_16_nodes(self):
        for size, automaton, table in WRONG:
            self.shows(right_evidence(automaton, table), "None")
            if size > 15:
                self.too_large("tree", wrong_tree, automaton, table)
                if automaton[0] == (0, 2):
                    self.assertFalse(any(is_wrong(automaton, table, tree) for tree in small_trees((0, 2))))
            else:
                found = [tree for tree in small_trees((0, 2)) if is_wrong(automaton, table, tree)]
                self.assertEqual(nodes(found[0]), size)
                self.same(wrong_tree(automaton, table), found[0])

    def test_of_one_size_the_first(self):
        every, none = ((0, 0, 2), (True,), (0, 0, ((0,),))), ((0, 0, 2), (False,), (0, 0, ((0,),)))
        self.shows(wrong_tree(every, (0, (((), (), None),))), "(2, (0,), (0,))")
        self.shows(wrong_tree(none, (0, ((None, (), (0, 0)),))), "(1,)")
        self.shows(wrong_tree(none, (0, ((None, None, (1, 1)), ((), (), None)))), "(2, (0,), (0,))")
        self.shows(wrong_tree(every, (0, (((), (), (1, 0)), (None, (), (0, 0))))), "(2, (0,), (0,))")
        self.shows(wrong_tree(every, (0, (((), (), (0, 1)), ((), None, (0, 0))))), "(2, (0,), (1,))")

    def test_automata_of_1_and_4_states_and_no_trees(self):
        leaf = ((0,), (True,), (0,))
        self.shows((wrong_tree(leaf, (0, ((None,),))), wrong_tree(leaf, (0, (((),),)))), "((0,), None)")
        four = ((0, 1), (True, False, False, False), (0, (1, 2, 3, 0)))
        turned = (0, (((), (1,)), (None, (2,)), (None, (3,)), (None, (0,))))
        self.shows((wrong_tree(four, turned), wrong_tree(four, (1, turned[1])), wrong_tree(EVEN, turned)),
                   "(None, (0,), (1, (1, (0,))))")
        self.shows((wrong_tree(NO_TREES, NO_LEAF), right_evidence(NO_TREES, NO_LEAF)), "(None, ())")

    def test_either_evidence_or_a_wrong_tree(self):
        """Point 89."""
        for automaton, table in cases(802, 1):
            value, tree = right_evidence(automaton, table), wrong_tree(automaton, table)
            self.assertNotEqual(value is None, tree is None)

    def test_the_same_good_trees(self):
        """Point 90."""
        told = 0
        for automaton, table in cases(803, 1):
            least = minimal(automaton)
            self.same(wrong_tree(least, table), wrong_tree(automaton, table))
            self.same(right_evidence(least, table) is None, right_evidence(automaton, table) is None)
            told += right_evidence(least, table) is not None and len(least[1]) < len(automaton[1])
        self.assertGreater(told, 10)


class Evidence(Case):
    def test_the_told_relation(self):
        """Points 87 and 88."""
        found = 0
        for automaton, table in cases(804, 1):
            relation = tuple(sorted(taken_by(automaton, table)))
            right = all(automaton[1][one] == (table[0] in chosen) for one, chosen in relation)
            self.same(right_evidence(automaton, table), relation if right else None)
            self.same(accepts_right(automaton, table, relation), right)
            for tree in all_trees(automaton[0], 4):
                self.assertIn((state(automaton, tree), takers(automaton[0], table, tree)), relation)
            if right:
                found += len(relation) > 2
                for at in range(len(relation)):
                    self.shows(accepts_right(automaton, table, relation[:at] + relation[at + 1:]), "False")
        self.assertGreater(found, 20)

    def test_right_least_tables(self):
        told = 0
        for automaton in looking_automata(805, 2):
            table = least_table(automaton)
            if is_table(automaton[0], table):
                self.same(right_evidence(automaton, table) is not None, is_enough(automaton))
                told += is_enough(automaton)
        self.assertGreater(told, 50)

    def test_all_relations(self):
        """Points 1, 87 and 88: of all relations just the right ones, and only if the table is right."""
        kinds = {True: 0, False: 0}
        for automaton, table in cases(806, 1):
            if len(automaton[1]) * 2 ** len(table[1]) > 8 or automaton[0] not in ((0, 1), (0, 2), (1,), (0,), (2,)):
                continue
            many = len(table[1])
            sets = sorted([one for size in range(many + 1) for one in itertools.combinations(range(many), size)])
            pairs = list(itertools.product(range(len(automaton[1])), sets))
            accepted = False
            for size in range(len(pairs) + 1):
                for value in itertools.combinations(pairs, size):
                    right = accepts_right(automaton, table, value)
                    self.same(right, judged(automaton, table, value))
                    accepted = accepted or right
            self.same(accepted, wrong_tree(automaton, table) is None)
            kinds[accepted] += 1
        self.assertGreater(min(kinds.values()), 5)

    def test_relations_of_0_and_64_pairs(self):
        sets = sorted([chosen for many in range(5) for chosen in itertools.combinations(range(4), many)])
        every = tuple(itertools.product(range(4), sets))
        automaton = ((1,), (True, False, True, False), ((2, 1, 0, 3),))
        table = (0, (((0,),), ((2,),), (None,), ((1,),)))
        kept = tuple([(one, chosen) for one, chosen in every if automaton[1][one] == (0 in chosen)])
        self.assertEqual((len(every), len(kept)), (64, 32))
        for value, accepted in [((), True), (kept, True), (every, False), (kept[1:], False), (kept + kept[-1:], False),
                                (every + every[-1:], False), (kept[:1], False)]:
            self.same(accepts_right(automaton, table, value), accepted)
            self.same(judged(automaton, table, value), accepted)
        self.shows(right_evidence(automaton, table), "()")
        self.shows(accepts_right(EVEN, TABLE, ()), "False")

    def test_other_evidence_than_the_program_s_own(self):
        self.shows(right_evidence(EVEN, TABLE), "((0, (0,)), (1, (1,)))")
        for value, accepted in [
            (((0, (0,)), (0, (0, 1)), (1, (1,))), False), (((0, (0,)), (1, ()), (1, (1,))), False),
            (((0, (0,)), (0, (0, 1)), (1, ()), (1, (1,))), False), (((0, (0,)), (1, (1,))), True),
        ]:
            self.same(accepts_right(EVEN, TABLE, value), accepted)
            self.same(judged(EVEN, TABLE, value), accepted)
        more = ((0, 1), (True, False, False), (0, (1, 0, 2)))
        self.shows(accepts_right(more, TABLE, ((0, (0,)), (1, (1,)), (2, ()))), "True")
        self.shows(accepts_right(more, TABLE, ((0, (0,)), (1, (1,)), (2, (1,)))), "False")
        wide = (0, (((), (1,)), (None, (0,)), ((), (2,))))
        self.shows(right_evidence(EVEN, wide), "((0, (0, 2)), (1, (1, 2)))")
        self.shows(accepts_right(EVEN, wide, ((0, (0, 2)), (1, (1, 2)))), "True")
        self.shows(accepts_right(EVEN, wide, ((0, (0,)), (0, (0, 2)), (1, (1,)), (1, (1, 2)))), "True")
        self.shows(accepts_right(EVEN, wide, ((0, (0,)), (1, (1,)))), "False")

    def test_one_thing_changed(self):
        for automaton, table in [(ONE, least_table(ONE)), (EVEN, TABLE), (NO_TREES, NO_LEAF),
                                 (((0, 2), (True, False), (0, ((1, 1), (1, 1)))), (0, (((), None),)))]:
            value = right_evidence(automaton, table)
            self.shows(accepts_right(automaton, table, value), "True")
            for at, other in enumerate([value] + changed(value)):
                with self.subTest(at=at):
                    self.same(accepts_right(automaton, table, other), judged(automaton, table, other))

    def test_what_is_no_evidence(self):
        for value in [None, True, 0, "", [], [(0, (0,)), (1, (1,))], ([0, (0,)], (1, (1,))), ((0, [0]), (1, (1,))),
                      ((0, (0,)), (1, (1,)), (1, (1,))), ((1, (1,)), (0, (0,))), ((0, (0,)),), ((1, (1,)),),
                      ((False, (0,)), (1, (1,))), ((0, (0,)), (True, (1,))), ((0, (0,)), (1, (True,))),
                      ((0, (False,)), (1, (1,))), ((0, (0,)), (1, (1, 1))), ((0, (0,)), (1, (1,)), (2, ())),
                      ((-1, ()), (0, (0,)), (1, (1,))), ((0, (-1, 0)), (1, (1,))), ((0, (0,)), (1, (1, 0)), (1, (1,))),
                      ((0, (0,)), (1, (2,))), ((0, 0), (1, 1)), ((0, (0,), ()), (1, (1,), ())), ((0,), (1,)),
                      ((0, (0,)), (1, None)), DEEP, DEEP_LIST, (DEEP,), ((0, DEEP), (1, (1,))),
                      ((DEEP, (0,)), (1, (1,))),
                      ((0, (0,)), (1, (DEEP,))), ((0, (0,)), (1, DEEP_LIST)), ((0, (0,)), (1, (1,))) * 50000]:
            self.shows(accepts_right(EVEN, TABLE, value), "False")
        self.shows(accepts_right(EVEN, TABLE, ((0, (0,)), (1, (1,)))), "True")


class WrongArguments(Case):
    def test_each_is_refused_by_its_name_and_the_first_of_several(self):
        """Points 8 and 91: a least table with more than 4 states is no table here."""
        great = ((0, 1, 1, 1), (True, True, False, False), (0, (1, 2, 3, 0), (1, 0, 2, 3), (0, 0, 2, 3)))
        others = [TABLE, NO_LEAF, (0, (((), (0, 0), (0,)),)), (0, ALL_OF[1] * 5)]
        wrongs = [("automaton", helpers.WRONG_AUTOMATA), ("table", WRONG_TABLES + others)]
        self.refuses_in_order(wrong_tree, (MIXED, ALL_OF), wrongs)
        self.refuses_in_order(right_evidence, (MIXED, ALL_OF), wrongs)
        self.refuses_in_order(accepts_right, (MIXED, ALL_OF, ()), wrongs)
        self.assertGreater(len(least_table(great)[1]), 4)
        for function in (wrong_tree, right_evidence):
            self.bad("table", function, great, least_table(great))
        self.bad("table", accepts_right, great, least_table(great), ())

    def test_wrong_values_go_ahead_of_what_is_too_large(self):
        _, automaton, table = WRONG[-1]
        self.bad("automaton", wrong_tree, automaton[:2], table)
        self.bad("table", wrong_tree, automaton, (2, table[1]))
        self.too_large("tree", wrong_tree, automaton, table)

    def test_the_judge_refuses_arguments_ahead_of_any_value(self):
        self.bad("automaton", accepts_right, None, None, None)
        self.bad("table", accepts_right, EVEN, None, DEEP)

    def test_arguments_stay_and_equal_calls_return_equal_results(self):
        value = [[0, [0]], [1, [1]]]
        for _ in range(2):
            self.shows(accepts_right(EVEN, TABLE, value), "False")
            self.shows(right_evidence(EVEN, TABLE), "((0, (0,)), (1, (1,)))")
            self.shows(wrong_tree(EVEN, (1, TABLE[1])), "(0,)")
        self.assertEqual(value, [[0, [0]], [1, [1]]])


if __name__ == "__main__":
    unittest.main()
