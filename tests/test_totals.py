"""How many good trees there are: points 33 to 38, and rootfirst/totals.py."""

import itertools
import unittest

from rootfirst.listing import count_good, nth_good
from rootfirst.totals import accepts_total, total_evidence, total_good
from tests import helpers
from tests.helpers import Case, all_trees, changed, is_one_of, is_plain_tree, is_whole, many_automata, state

EVEN = ((0, 0, 2), (True, False, False), (0, 1, ((0, 1, 2), (1, 0, 2), (2, 2, 2))))
FEW = ((0, 1), (False, True), (0, (1, 1)))
TWO = ((0, 1), (False, True, False), (0, (1, 2, 2)))
FULL = ((0, 2), (False, False, False, True), (0, ((1, 0, 0, 0), (0, 2, 0, 0), (0, 0, 3, 0), (0, 0, 0, 0))))
# Each state but the last one leads only to greater ones.
FINITE = ((0, 0, 2), (False, False, True, False), (
    0, 1, ((1, 2, 3, 3), (2, 2, 3, 3), (3, 3, 3, 3), (3, 3, 3, 3))))
LAYERS = ((0, 2), (False, True, True, False), (0, ((1, 3, 3, 3), (3, 2, 3, 3), (3, 3, 3, 3), (3, 3, 3, 3))))
NO_LEAF = ((1, 2), (True, False), ((1, 0), ((0, 1), (1, 0))))
# From the state 0 one comes, beside a tree with the state 1, back to 0, or to 2, which is good.
BESIDE = ((0, 0, 2), (False, False, True, False), (
    0, 1, ((3, 0, 3, 3), (2, 3, 3, 3), (3, 3, 3, 3), (3, 3, 3, 3))))


def heights(automaton, most):
    """For each height up to `most` the set of the states of the trees of just this height."""
    told, below = [], set()
    for _ in range(most):
        come = {
            helpers.entry_state(entry, states)
            for arity, entry in zip(automaton[0], automaton[2])
            for states in itertools.product(sorted(below), repeat=arity)
            if arity == 0 and not told or arity > 0 and any(one in told[-1] for one in states)
        } if told or 0 in automaton[0] else set()
        told.append(come)
        below |= come
    return told


def counts_up_to(automaton, most):
    """The numbers of trees by state, of all trees up to this height, of whatever size."""
    many = [0] * len(automaton[1])
    for _ in range(most):
        more = [0] * len(automaton[1])
        for arity, entry in zip(automaton[0], automaton[2]):
            for states in itertools.product(range(len(many)), repeat=arity):
                ways = 1
                for one in states:
                    ways *= many[one]
                more[helpers.entry_state(entry, states)] += ways
        many = more
    return many


def total_by_heights(automaton):
    """Point 33, with no step up looked at: the total, or None."""
    reached = len(helpers.reached_by_trees(automaton))
    high = heights(automaton, 4 * reached + 2)[reached:]
    if any(automaton[1][one] for come in high for one in come):
        return None
    return sum(many for many, flag in zip(counts_up_to(automaton, reached), automaton[1]) if flag)


def steps_up(automaton):
    """All pairs of reached states of which a step up leads from the one to the other."""
    reached = helpers.reached_by_trees(automaton)
    found = set()
    for arity, entry in zip(automaton[0], automaton[2]):
        for states in itertools.product(reached, repeat=arity):
            found |= {(one, helpers.entry_state(entry, states)) for one in states}
    return found


def judged_way(automaton, start, way, least):
    """The state behind the steps, or None if they are not such a tuple."""
    arities, flags, entries = automaton
    if type(way) is not tuple or not least <= len(way) <= 16:
        return None
    for step in way:
        if type(step) is not tuple or len(step) != 4:
            return None
        symbol, child, beside, behind = step
        if not is_one_of(symbol, len(arities)) or not is_one_of(child, arities[symbol]):
            return None
        if not is_one_of(behind, len(flags)):
            return None
        states = [start]
        if arities[symbol] == 1:
            if beside is not None:
                return None
        else:
            if not is_plain_tree(arities, beside):
                return None
            states.insert(1 - child, state(automaton, beside))
        start = helpers.entry_state(entries[symbol], states)
        if start != behind:
            return None
    return start


def judged(automaton, value):
    """Point 35, word by word."""
    reached = helpers.reached_by_trees(automaton)
    if type(value) is not tuple or not value or type(value[0]) is not str:
        return False
    if len(value) == 4 and value[0] == "endless":
        _, start, ways, onward = value
        if not is_whole(start) or start not in reached or judged_way(automaton, start, ways, 1) != start:
            return False
        last = judged_way(automaton, start, onward, 0)
        return last is not None and automaton[1][last]
    if len(value) != 3 or value[0] != "total":
        return False
    _, number, order = value
    if type(order) is not tuple or not all(is_whole(one) and one in reached for one in order):
        return False
    ups = steps_up(automaton)
    useful = {one for one in reached if automaton[1][one]}
    for _ in range(4):
        useful |= {one for one, other in ups if other in useful}
    if len(set(order)) != len(order) or not useful <= set(order):
        return False
    if any(order.index(other) <= order.index(one) for one, other in ups if one in order and other in order):
        return False
    return is_whole(number) and number == total_by_heights(automaton)


class Examples(Case):
    def test_the_interface(self):
        self.shows((nth_good(EVEN, 3), total_good(EVEN) is None), "((2, (0,), (2, (0,), (0,))), True)")
        self.shows((total_good(TWO), nth_good(TWO, 0), nth_good(TWO, 1), total_good(FEW) is None,
                    total_evidence(TWO)[:2]), "(1, (1, (0,)), None, True, ('total', 1))")
        self.shows((accepts_total(FEW, ("endless", 1, ((1, 0, None, 1),), ())),
                    accepts_total(TWO, ("total", 1, (0, 1))), accepts_total(TWO, ("total", 2, (0, 1)))),
                   "(True, True, False)")

    def test_point_38(self):
        """There are infinitely many trees with an even number of leaves 1."""
        self.shows(total_good(EVEN), "None")
        self.assertEqual(total_evidence(EVEN)[0], "endless")
        self.shows(accepts_total(EVEN, ("endless", 0, ((2, 1, (0,), 0),), ())), "True")


class Totals(Case):
    def test_totals_by_heights(self):
        """Points 33 and 34."""
        ended = 0
        for automaton in many_automata(41, 12) + [EVEN, FEW, TWO, FULL, FINITE, LAYERS, NO_LEAF, BESIDE]:
            wanted = total_by_heights(automaton)
            self.same(total_good(automaton), wanted)
            ended += wanted is not None and wanted > 0
            if wanted is not None:
                self.same(sum(count_good(automaton, size) for size in range(1, 16)), wanted)
                self.shows(nth_good(automaton, wanted), "None")
                self.assertTrue(wanted == 0 or nth_good(automaton, wanted - 1) is not None)
        self.assertGreater(ended, 20)

    def test_endless_by_steps_up(self):
        """Point 34."""
        for automaton in many_automata(42, 6) + [BESIDE, FINITE]:
            ups = steps_up(automaton)
            for _ in range(4):
                ups = ups | {(a, d) for a, b in ups for c, d in ups if b == c}
            reached = helpers.reached_by_trees(automaton)
            turning = [one for one in reached if (one, one) in ups]
            ends = [last for last in reached if automaton[1][last]]
            endless = [one for one in turning if one in ends or any((one, last) in ups for last in ends)]
            self.same(total_good(automaton) is None, endless != [])

    def test_totals_of_0_and_none(self):
        self.shows(total_good(NO_LEAF), "0")
        self.shows(total_good(((0, 2), (False,), (0, ((0,),)))), "0")
        self.shows(total_good(((0, 2), (True,), (0, ((0,),)))), "None")
        self.shows(total_good(((0,), (True,), (0,))), "1")
        self.shows(total_good(((0, 0, 0, 0), (True, False), (0, 1, 0, 0))), "3")

    def test_a_state_that_no_tree_has_does_not_count(self):
        """Neither as the one that leads to itself, nor in the other child."""
        self.shows(total_good(((0, 1), (True, False, True), (0, (1, 1, 2)))), "1")
        unreached = ((0, 2), (True, False, True), (0, ((1, 1, 0), (1, 1, 0), (0, 0, 2))))
        self.shows(total_good(unreached), "1")
        self.shows(accepts_total(unreached, ("total", 1, (0,))), "True")

    def test_totals_counted_by_hand(self):
        """FINITE: of the states 0 and 1 are 1 and 2 trees, and so 2 + 2 + 4 of the state 2."""
        self.shows(total_good(FINITE), "8")
        self.shows(total_good(LAYERS), "2")
        self.shows(total_good(((0, 2), (True, False), (0, ((1, 1), (1, 1))))), "1")
        self.shows(total_good(((0, 0, 1, 1), (False, True, False), (0, 0, (1, 2, 2), (1, 2, 2)))), "4")


class Evidence(Case):
    def test_the_told_evidence_is_accepted(self):
        """Points 35 and 36."""
        for automaton in many_automata(43, 8) + [EVEN, FEW, TWO, FULL, FINITE, LAYERS, NO_LEAF, BESIDE]:
            value = total_evidence(automaton)
            self.shows(accepts_total(automaton, value), "True")
            self.assertTrue(judged(automaton, value))
            if total_by_heights(automaton) is None:
                self.assertEqual((value[0], len(value)), ("endless", 4))
            else:
                self.same(value[:2], ("total", total_by_heights(automaton)))

    def test_exactly_one_word_is_accepted(self):
        """Point 36, for all orders, and for all evidence of few steps with small trees."""
        for automaton in many_automata(44, 1, [(0,), (0, 1), (0, 2), (0, 0, 2), (1, 0), (1,), (2, 1)]):
            many = len(automaton[1])
            total = total_by_heights(automaton)
            orders = [one for size in range(many + 1) for one in itertools.permutations(range(many), size)]
            words = set()
            for number in {0, 1, 2, 3, total or 0, (total or 0) + 1}:
                for order in orders:
                    value = ("total", number, order)
                    self.same(accepts_total(automaton, value), judged(automaton, value))
                    words |= {"total"} if accepts_total(automaton, value) else set()
            for value in short_endless(automaton):
                self.same(accepts_total(automaton, value), judged(automaton, value))
                words |= {"endless"} if accepts_total(automaton, value) else set()
            self.assertNotIn("total" if total is None else "endless", words)
            self.assertTrue(total is None or words == {"total"})

    def test_0_1_16_and_17_steps(self):
        loop = (1, 0, None, 1)
        up = ((1, 0, None, 1),)
        for many in (1, 2, 15, 16):
            self.shows(accepts_total(FEW, ("endless", 1, (loop,) * many, ())), "True")
            self.shows(accepts_total(FEW, ("endless", 1, up, (loop,) * many)), "True")
        self.shows(accepts_total(FEW, ("endless", 1, (), ())), "False")
        self.shows(accepts_total(FEW, ("endless", 1, (loop,) * 17, ())), "False")
        self.shows(accepts_total(FEW, ("endless", 1, up, (loop,) * 17)), "False")
        self.shows(accepts_total(FEW, ("endless", 1, up, up[:0])), "True")

    def test_other_evidence_than_the_program_s_own(self):
        tree = (2, (1,), (2, (0,), (1,)))
        self.shows(accepts_total(EVEN, ("endless", 0, ((2, 0, tree, 0),), ((2, 1, tree, 0),))), "True")
        self.shows(accepts_total(EVEN, ("endless", 1, ((2, 0, (1,), 0), (2, 1, (1,), 1)), ((2, 0, (1,), 0),))), "True")
        self.shows(accepts_total(EVEN, ("endless", 1, ((2, 0, (0,), 1),), ())), "False")
        self.shows(accepts_total(BESIDE, ("endless", 0, ((2, 0, (1,), 0),), ((2, 1, (1,), 2),))), "True")
        self.shows(accepts_total(BESIDE, ("endless", 0, ((2, 1, (1,), 0),), ((2, 0, (1,), 2),))), "False")
        self.shows(accepts_total(BESIDE, ("endless", 0, ((2, 0, (0,), 0),), ((2, 1, (1,), 2),))), "False")
        self.shows(accepts_total(TWO, ("total", 1, (0, 1))), "True")
        apart = ((0, 0, 0), (True, True, True, True), (0, 1, 2))
        for order in itertools.permutations(range(3)):
            self.shows(accepts_total(apart, ("total", 3, order)), "True")
        self.shows(accepts_total(apart, ("total", 3, (0, 1))), "False")
        self.shows(accepts_total(apart, ("total", 3, (0, 1, 3))), "False")
        self.shows(accepts_total(apart, ("total", 3, (0, 1, 2, 3))), "False")

    def test_the_order_may_have_states_that_lead_to_no_good_one(self):
        dead = ((0, 1), (True, False, False), (0, (1, 2, 2)))
        self.shows(accepts_total(dead, ("total", 1, (0,))), "True")
        self.shows(accepts_total(dead, ("total", 1, (0, 1))), "True")
        self.shows(accepts_total(dead, ("total", 1, (1, 0))), "False")
        self.shows(accepts_total(dead, ("total", 1, (0, 1, 2))), "False")

    def test_the_start_must_be_a_state_of_a_tree(self):
        for flags in [(True, True), (False, True)]:
            bare = ((0, 1), flags, (0, (0, 1)))
            self.shows(accepts_total(bare, ("endless", 1, ((1, 0, None, 1),), ())), "False")

    def test_trees_of_15_and_16_nodes_beside(self):
        every = ((0, 1, 2), (True,), (0, (0,), ((0,),)))
        for beside, wanted in [(helpers.nested_tree(14), True), (helpers.nested_tree(15), False),
                               (helpers.perfect_tree(4), True), (helpers.perfect_tree(5), False),
                               (helpers.perfect_tree(60), False), (helpers.nested_tree(5000), False)]:
            for child in (0, 1):
                self.same(accepts_total(every, ("endless", 0, ((2, child, beside, 0),), ())), wanted)
                self.same(accepts_total(every, ("endless", 0, ((1, 0, None, 0),), ((2, child, beside, 0),))), wanted)

    def test_totals_of_0(self):
        self.shows(total_evidence(NO_LEAF), "('total', 0, ())")
        self.shows(accepts_total(NO_LEAF, ("total", 0, ())), "True")
        self.shows(accepts_total(NO_LEAF, ("total", 1, ())), "False")
        self.shows(accepts_total(NO_LEAF, ("total", 0, (0,))), "False")
        self.shows(accepts_total(NO_LEAF, ("endless", 0, ((0, 0, None, 1), (0, 0, None, 0)), ())), "False")
        never = ((0, 2), (False,), (0, ((0,),)))
        self.shows(total_evidence(never), "('total', 0, ())")
        self.shows(accepts_total(never, ("total", 0, (0,))), "False")

    def test_one_thing_changed(self):
        pair = ("endless", 1, ((2, 0, (1,), 0), (2, 1, (1,), 1)), ((2, 0, (1,), 0),))
        for automaton, evidence in [
            (EVEN, total_evidence(EVEN)), (EVEN, pair), (FEW, ("endless", 1, ((1, 0, None, 1),), ())),
            (BESIDE, total_evidence(BESIDE)), (TWO, total_evidence(TWO)), (FINITE, total_evidence(FINITE)),
            (LAYERS, total_evidence(LAYERS)), (NO_LEAF, ("total", 0, ())),
        ]:
            self.shows(accepts_total(automaton, evidence), "True")
            for at, value in enumerate(changed(evidence)):
                with self.subTest(at=at):
                    self.same(accepts_total(automaton, value), judged(automaton, value))

    def test_what_is_no_evidence(self):
        for automaton in (TWO, FEW):
            for value in [None, True, 0, "total", "endless", (), ("total",), ("endless",), ["total", 1, (0, 1)],
                          ("total", 1, [0, 1]), ("total", True, (0, 1)), ("total", 1, (False, True)),
                          ("total", 1, (0, 1, 1)), ("total", 1, (1, 0)), ("total", 1, (0, 1), ()), ("Total", 1, (0, 1)),
                          ("total", 1, (0,)), ("total", 1, (1,)), ("total", 1, ()), ("total", None, (0, 1)),
                          ("total", 1, None), ("total", -1, (0, 1)), ("total", 1, (-1, 0, 1)),
                          ("endless", True, ((1, 0, None, 1),), ()), ("endless", 1, [(1, 0, None, 1)], ()),
                          ("endless", 1, ((1, 0, None, 1),), []), ("endless", 1, ([1, 0, None, 1],), ()),
                          ("endless", 1, ((True, 0, None, 1),), ()), ("endless", 1, ((1, False, None, 1),), ()),
                          ("endless", 1, ((1, 0, None, True),), ()), ("endless", 1, ((1, 0, (0,), 1),), ()),
                          ("endless", 1, ((1, 1, None, 1),), ()), ("endless", 1, ((0, 0, None, 1),), ()),
                          ("endless", 1, ((2, 0, None, 1),), ()), ("endless", 1, ((-1, 0, None, 1),), ()),
                          ("endless", 1, ((1, 0, None, 1),)), ("endless", 2, ((1, 0, None, 1),), ()),
                          ("endless", 0, ((1, 0, None, 1),), ()), ("endless", 1, ((1, 0, None),), ()),
                          ("total", 1, ((1, 0, None, 1),), ()), ("endless", 1, (0, 1)),
                          helpers.DEEP, helpers.DEEP_LIST, ("total", helpers.DEEP, (0, 1)), ("total", 1, helpers.DEEP),
                          ("total", 1, (0, helpers.DEEP)), (helpers.DEEP, 1, (0, 1)), ("endless", helpers.DEEP, (), ()),
                          ("endless", 1, helpers.DEEP, ()), ("endless", 1, ((1, 0, None, 1),), helpers.DEEP),
                          ("endless", 1, ((1, 0, helpers.DEEP, 1),), ()), (helpers.DEEP, 1, ((1, 0, None, 1),), ())]:
                self.shows(accepts_total(automaton, value), "False")


def short_endless(automaton):
    """All evidence of at most two and one steps, with leaves or trees of three nodes beside."""
    arities, flags, _ = automaton
    many = len(flags)
    besides = [None] + all_trees(arities, 3)[:3]
    steps = [
        (symbol, child, beside, behind)
        for symbol in range(len(arities)) for child in (0, 1) for beside in besides for behind in range(many)
        if arities[symbol] > 0 and (beside is None) == (arities[symbol] == 1)
    ]
    ways = [(step,) for step in steps] + [(one, other) for one in steps[:12] for other in steps[:12]]
    return [
        ("endless", start, way, onward)
        for start in range(many) for way in ways[:60] for onward in [()] + [(step,) for step in steps[:8]]
    ]


class WrongArguments(Case):
    def test_each_is_refused_by_its_name(self):
        """Points 8 and 37."""
        wrongs = [("automaton", helpers.WRONG_AUTOMATA)]
        self.refuses_in_order(total_good, (TWO,), wrongs)
        self.refuses_in_order(total_evidence, (TWO,), wrongs)
        self.refuses_in_order(accepts_total, (TWO, None), wrongs)

    def test_arguments_stay_and_equal_calls_return_equal_results(self):
        value = ["total", 1, [0, 1]]
        for automaton in (TWO, EVEN, BESIDE):
            self.shows(accepts_total(automaton, value), "False")
            self.shows(total_evidence(automaton), repr(total_evidence(automaton)))
        self.assertEqual(value, ["total", 1, [0, 1]])


if __name__ == "__main__":
    unittest.main()
