"""Comparing automata: points 39 to 48, and rootfirst/comparing.py."""

import itertools
import unittest

from rootfirst.comparing import (
    accepts_same, accepts_within, both, either, minimal, same_evidence, telling_tree, within_evidence, without,
)
from rootfirst.runs import is_automaton
from tests import helpers
from tests.helpers import Case, all_trees, changed, good, is_one_of, many_automata, nodes, rank

EVEN, SOME = ((0, 1), (True, False), (0, (1, 0))), ((0, 1), (False, True), (0, (1, 1)))
THREE = ((0, 1), (True, False, True, False), (0, (1, 2, 3, 0)))
NONE = ((1,), (True, False), ((1, 0),))
# Two counters, of the symbol 1 and of the symbol 2, that have all 16 pairs of states.
ONES = ((0, 1, 1), (True, False, False, False), (0, (1, 2, 3, 0), (0, 1, 2, 3)))
TWOS = ((0, 1, 1), (True, False, False, False), (0, (0, 1, 2, 3), (1, 2, 3, 0)))
# Pairs of automata by the size of their telling tree.
TELLING = {
    15: (((0, 2), (True, False, False, False), (2, ((2, 1, 1, 1), (1, 3, 2, 3), (1, 2, 1, 3), (1, 2, 1, 0)))),
         ((0, 2), (False, True, False, False), (2, ((1, 1, 0, 3), (2, 3, 2, 0), (1, 0, 2, 2), (2, 3, 3, 1))))),
    16: (((0, 1, 2), (True, False, True, True),
          (1, (1, 1, 0, 1), ((0, 3, 2, 3), (0, 0, 3, 0), (2, 0, 1, 1), (0, 3, 1, 0)))),
         ((0, 1, 2), (True, True, True, False),
          (3, (3, 0, 3, 3), ((1, 0, 2, 2), (1, 3, 0, 0), (2, 0, 0, 2), (2, 1, 2, 2))))),
    17: (((0, 2), (True, False, True, False), (1, ((2, 0, 2, 2), (3, 2, 1, 2), (0, 1, 3, 2), (0, 2, 1, 0)))),
         ((0, 2), (True, False, False, False), (2, ((1, 0, 2, 2), (2, 0, 0, 3), (2, 0, 0, 3), (2, 0, 1, 1))))),
    31: (((0, 2), (False, False, False, True), (0, ((2, 1, 2, 0), (1, 3, 0, 1), (0, 2, 1, 0), (3, 1, 2, 3)))),
         ((0, 2), (False, True, False, False), (3, ((2, 3, 0, 3), (3, 0, 2, 1), (3, 0, 1, 2), (0, 3, 2, 0))))),
}


def pairs_with_sizes(first, second):
    """All pairs of states of trees, with the least size of a tree of each."""
    found = {}
    while True:
        before = dict(found)
        for symbol, arity in enumerate(first[0]):
            for chosen in itertools.product(before, repeat=arity):
                one = helpers.entry_state(first[2][symbol], [pair[0] for pair in chosen])
                other = helpers.entry_state(second[2][symbol], [pair[1] for pair in chosen])
                size = 1 + sum(before[pair] for pair in chosen)
                found[(one, other)] = min(size, found.get((one, other), size))
        if found == before:
            return found


def judged(first, second, value, within):
    """Points 41 and 42, word by word."""
    if type(value) is not tuple or len(value) > 16:
        return False
    for pair in value:
        if type(pair) is not tuple or len(pair) != 2:
            return False
        if not is_one_of(pair[0], len(first[1])) or not is_one_of(pair[1], len(second[1])):
            return False
    if list(value) != sorted(set(value)):
        return False
    for symbol, arity in enumerate(first[0]):
        for chosen in itertools.product(value, repeat=arity):
            one = helpers.entry_state(first[2][symbol], [pair[0] for pair in chosen])
            other = helpers.entry_state(second[2][symbol], [pair[1] for pair in chosen])
            if (one, other) not in value:
                return False
    if within:
        return not any(first[1][one] and not second[1][other] for one, other in value)
    return all(first[1][one] == second[1][other] for one, other in value)


def couples(seed, times, all_arities=tuple(helpers.MANY_ARITIES)):
    """Two automata each for the same arities; some of the second ones are the first ones with states doubled."""
    chosen = many_automata(seed, 2 * times, all_arities)
    told = [(one, other) for one, other in zip(chosen[::2], chosen[1::2])]
    return told + [(one, one) for one, _ in told[::3]] + [(one, doubled(one)) for one, _ in told if len(one[1]) < 3]


def doubled(automaton):
    """The same good trees, with a second state for each one, to which steps lead from any odd state on."""
    arities, flags, entries = automaton
    many = len(flags)

    def entry(arity, told, odd):
        if arity == 0:
            return told + (many if odd else 0)
        return tuple([entry(arity - 1, told[at % many], odd != (at >= many)) for at in range(2 * many)])

    steps = tuple([entry(arity, told, True) for arity, told in zip(arities, entries)])
    return (arities, flags + flags, steps)


def small_trees(arities):
    return all_trees(arities, {(0, 2): 15, (2, 0): 15, (0, 1): 15, (1, 0): 15}.get(arities, 6))


class Examples(Case):
    def test_the_interface(self):
        self.shows((telling_tree(EVEN, SOME), both(EVEN, SOME)),
                   "((0,), ((0, 1), (False, False, True), (0, (1, 2, 1))))")
        self.shows((either(EVEN, SOME), without(EVEN, SOME)),
                   "(((0, 1), (True,), (0, (0,))), ((0, 1), (True, False), (0, (1, 1))))")
        self.shows((minimal(THREE) == minimal(EVEN), same_evidence(EVEN, THREE),
                    accepts_same(EVEN, THREE, ((0, 0), (0, 2), (1, 1), (1, 3)))),
                   "(True, ((0, 0), (0, 2), (1, 1), (1, 3)), True)")
        self.shows((within_evidence(SOME, EVEN) is None,
                    accepts_within(without(EVEN, SOME), EVEN, ((0, 0), (1, 0), (1, 1)))), "(True, True)")
        self.shows(minimal(NONE), "((1,), (False,), ((0,),))")

    def test_point_48(self):
        """Three states for both: none of the symbol, an odd number, an even number from 2 on."""
        self.shows(telling_tree(EVEN, SOME), "(0,)")
        arities, flags, steps = both(EVEN, SOME)
        self.shows((arities, flags, steps), "((0, 1), (False, False, True), (0, (1, 2, 1)))")


class Telling(Case):
    def test_the_first_tree_of_all(self):
        """Point 40."""
        sizes = set()
        for first, second in couples(51, 6):
            apart = [size for (one, other), size in pairs_with_sizes(first, second).items()
                     if first[1][one] != second[1][other]]
            if not apart:
                self.shows(telling_tree(first, second), "None")
                continue
            sizes.add(min(apart))
            told = telling_tree(first, second)
            self.assertEqual(nodes(told), min(apart))
            for tree in small_trees(first[0]):
                if rank(tree) < rank(told):
                    self.assertEqual(good(first, tree), good(second, tree))
            self.assertNotEqual(good(first, told), good(second, told))
            self.same(telling_tree(second, first), told)
        self.assertGreater(len(sizes), 3)

    def test_trees_of_15_and_of_more_nodes(self):
        for size, (first, second) in TELLING.items():
            apart = [least for (one, other), least in pairs_with_sizes(first, second).items()
                     if first[1][one] != second[1][other]]
            self.assertEqual(min(apart), size)
            self.shows((same_evidence(first, second), minimal(first) == minimal(second)), "(None, False)")
            if size > 15:
                self.too_large("tree", telling_tree, first, second)
                self.too_large("tree", telling_tree, second, first)
        first, second = TELLING[15]
        wanted = [tree for tree in small_trees((0, 2)) if good(first, tree) != good(second, tree)][0]
        self.same(telling_tree(first, second), wanted)
        self.assertEqual(nodes(wanted), 15)

    def test_none_if_they_are_the_same(self):
        self.shows(telling_tree(EVEN, THREE), "None")
        self.shows(telling_tree(EVEN, EVEN), "None")
        self.shows(telling_tree(NONE, ((1,), (False,), ((0,),))), "None")
        self.shows(telling_tree(((0,), (True,), (0,)), ((0,), (False, True), (1,))), "None")

    def test_a_state_that_no_tree_has_tells_nothing(self):
        self.shows(telling_tree(((0,), (True, False), (0,)), ((0,), (True, True), (0,))), "None")

    def test_of_the_same_size_the_less_symbols(self):
        first = ((0, 1, 1), (True, False), (0, (0, 0), (1, 1)))
        second = ((0, 1, 1), (True, False), (0, (1, 1), (0, 0)))
        self.shows(telling_tree(first, second), "(1, (0,))")


class Minimal(Case):
    def surroundings(self, automaton):
        """All that can stand around a part, as tuples of the state of the whole for each state of the part."""
        arities, flags, entries = automaton
        reached = helpers.reached_by_trees(automaton)
        single = []
        for arity, entry in zip(arities, entries):
            if arity == 1:
                single.append(entry)
            if arity == 2:
                single += [tuple([entry[one][beside] for one in range(len(flags))]) for beside in reached]
                single += [entry[beside] for beside in reached]
        found = [tuple(range(len(flags)))]
        for around in found:
            for step in single:
                wider = tuple([step[come] for come in around])
                if wider not in found:
                    found.append(wider)
        return found

    def reference(self, automaton):
        """Point 44, where two states are equivalent if no surrounding tells them apart."""
        arities, flags, entries = automaton
        reached = helpers.reached_by_trees(automaton)
        if not reached:
            return (arities, (False,), tuple([(0, (0,), ((0,),))[arity] for arity in arities]))
        around = self.surroundings(automaton)
        seen = {one: [flags[told[one]] for told in around] for one in reached}
        chosen = []
        while True:
            before = list(chosen)
            for symbol, arity in enumerate(arities):
                for states in itertools.product(before, repeat=arity):
                    come = helpers.entry_state(entries[symbol], states)
                    if all(seen[come] != seen[one] for one in chosen):
                        chosen.append(come)
            if chosen == before:
                break

        def number(one):
            return [at for at, other in enumerate(chosen) if seen[one] == seen[other]][0]

        def entry(arity, told):
            return number(told) if arity == 0 else tuple([entry(arity - 1, told[one]) for one in chosen])

        steps = tuple([entry(arity, told) for arity, told in zip(arities, entries)])
        return (arities, tuple([flags[one] for one in chosen]), steps)

    def test_by_all_surroundings(self):
        """Points 43 and 44."""
        told = 0
        for automaton in many_automata(52, 12) + [EVEN, SOME, THREE, NONE, ONES, TWOS]:
            wanted = self.reference(automaton)
            told += len(wanted[1]) > 1
            self.same(minimal(automaton), wanted)
        self.assertGreater(told, 40)

    def test_the_same_trees_are_good_and_no_state_is_left_to_take_out(self):
        """Points 44 and 45."""
        for automaton in many_automata(53, 3):
            least = minimal(automaton)
            self.shows(is_automaton(least), "True")
            for tree in all_trees(automaton[0], 5):
                self.same(good(least, tree), good(automaton, tree))
            self.same(minimal(least), least)
            self.assertLessEqual(len(least[1]), len(automaton[1]))
            if 0 in automaton[0]:
                self.assertEqual(helpers.reached_by_trees(least), tuple(range(len(least[1]))))
            else:
                self.same(least[1], (False,))

    def test_no_automaton_with_fewer_states_is_the_same(self):
        """Point 45, against all automata with fewer states."""
        fewer = {
            many: [((0, 1), flags, (leaf, row)) for flags in itertools.product((True, False), repeat=many)
                   for leaf in range(many) for row in itertools.product(range(many), repeat=many)]
            for many in (1, 2)
        }
        for automaton in many_automata(54, 25, [(0, 1)]):
            for many in range(1, min(3, len(minimal(automaton)[1]))):
                for other in fewer[many]:
                    self.assertIsNotNone(telling_tree(automaton, other))

    def test_the_same_if_and_only_if_the_minimal_automata_are_equal(self):
        """Point 45."""
        alike = 0
        for first, second in couples(55, 4):
            apart = any(first[1][one] != second[1][other] for one, other in pairs_with_sizes(first, second))
            self.same(minimal(first) == minimal(second), not apart)
            alike += not apart
        self.assertGreater(alike, 20)

    def test_rounds_look_only_at_what_was_numbered_before(self):
        """The leaf 0; above it 1 by the symbol 0 and 3 by the symbol 2; only then 2, by the symbol 0 above 1."""
        late = ((1, 0, 1), (False, False, True, True), ((1, 2, 3, 0), 0, (3, 0, 1, 2)))
        self.same(minimal(late), ((1, 0, 1), (False, False, True, True), ((1, 3, 0, 2), 0, (2, 0, 3, 1))))
        self.same(minimal(late), self.reference(late))

    def test_pairs_in_order_of_the_first_child(self):
        """With 0 and 1 numbered, the symbol leads from (0, 1) to 2, ahead of (1, 0)."""
        two = ((0, 0, 2), (True, False, False, True), (3, 0, ((0, 1, 0, 2), (1, 2, 2, 1), (0, 2, 1, 0), (1, 2, 3, 3))))
        self.same(minimal(two), self.reference(two))
        simple = ((0, 0, 2), (False, True, False, True), (
            0, 1, ((0, 2, 0, 0), (3, 1, 0, 0), (0, 0, 2, 0), (0, 0, 0, 3))))
        self.same(minimal(simple)[2][2][0][1], 2)
        self.same(minimal(simple)[2][2][1][0], 3)
        self.same(minimal(simple), self.reference(simple))

    def test_equivalent_states_are_one(self):
        self.shows(minimal(THREE), "((0, 1), (True, False), (0, (1, 0)))")
        every = ((0, 1, 2), (True,) * 4, (3, (2, 1, 0, 1), ((0, 1, 2, 3),) * 4))
        self.shows(minimal(every), "((0, 1, 2), (True,), (0, (0,), ((0,),)))")
        left_out = ((0, 1), (True, True, False, False), (1, (2, 1, 3, 0)))
        self.shows(minimal(left_out), "((0, 1), (True,), (0, (0,)))")

    def test_states_that_differ_only_beside_another_one(self):
        """0 and 1 are told apart only as a first child beside the leaf 2, or only as a second one."""
        first = ((0, 0, 2), (False, False, True), (0, 1, ((0, 0, 0), (0, 2, 0), (0, 0, 0))))
        self.same(minimal(first), self.reference(first))
        for flags in itertools.product((True, False), repeat=3):
            for left in range(3):
                for right in range(3):
                    rows = [[0, 0, 0] for _ in range(3)]
                    rows[left][right] = 2
                    told = ((0, 0, 2), flags, (0, 1, tuple([tuple(row) for row in rows])))
                    self.same(minimal(told), self.reference(told))

    def test_no_trees(self):
        self.shows(minimal(((1, 2), (True, True), ((1, 0), ((0, 1), (1, 0))))), "((1, 2), (False,), ((0,), ((0,),)))")


class Joined(Case):
    def test_the_trees_of_both_either_and_without(self):
        """Points 39 and 46."""
        for first, second in couples(56, 2):
            told = (both(first, second), either(first, second), without(first, second))
            for tree in all_trees(first[0], 5):
                one, other = good(first, tree), good(second, tree)
                self.same([good(automaton, tree) for automaton in told],
                          [one and other, one or other, one and not other])
            self.same(both(second, first), told[0])
            self.same(either(second, first), told[1])
            self.same(without(second, second)[1], (False,))
            self.same(both(first, first), minimal(first))
            self.same(either(first, first), minimal(first))
            for least in told:
                if len(least[1]) <= 4:
                    self.same(minimal(least), least)

    def test_more_than_4_states(self):
        three = ((0, 1), (True, False, False), (0, (1, 2, 0)))
        four = ((0, 1), (True, False, False, False), (0, (1, 2, 3, 0)))
        turned = tuple([(number + 1) % 12 for number in range(12)])
        self.same(both(three, four), ((0, 1), (True,) + (False,) * 11, (0, turned)))
        flags = tuple([number % 3 == 0 or number % 4 == 0 for number in range(12)])
        self.same(either(three, four), ((0, 1), flags, (0, turned)))
        self.same(without(three, four)[1], tuple([number % 3 == 0 and number % 4 != 0 for number in range(12)]))

    def test_16_states(self):
        """Numbered in rounds: by the number of both symbols that it takes, those of symbol 1 first."""
        arities, flags, steps = both(ONES, TWOS)
        self.assertEqual((arities, len(flags), flags.count(True), flags[0]), ((0, 1, 1), 16, 1, True))
        self.same([steps[1][0], steps[2][0], steps[1][1], steps[2][1], steps[1][2], steps[2][2]], [1, 2, 3, 4, 4, 5])
        numbers = [(0, 0)]
        while True:
            before = list(numbers)
            for add in [(1, 0), (0, 1)]:
                for one, other in before:
                    come = ((one + add[0]) % 4, (other + add[1]) % 4)
                    if come not in numbers:
                        numbers.append(come)
            if numbers == before:
                break
        self.same(steps[1], tuple([numbers.index(((one + 1) % 4, other)) for one, other in numbers]))
        self.same(steps[2], tuple([numbers.index((one, (other + 1) % 4)) for one, other in numbers]))
        self.bad("first", telling_tree, both(ONES, TWOS), ONES)
        self.bad("automaton", minimal, both(ONES, TWOS))

    def test_automata_of_1_and_4_states(self):
        one = ((0,), (True,), (0,))
        self.shows((both(one, one), either(one, one), without(one, one)),
                   "(((0,), (True,), (0,)), ((0,), (True,), (0,)), ((0,), (False,), (0,)))")
        self.shows(both(NONE, NONE), "((1,), (False,), ((0,),))")
        self.shows(either(NONE, ((1,), (True,), ((0,),))), "((1,), (False,), ((0,),))")


class Evidence(Case):
    def test_the_least_relation(self):
        """Points 41 and 42."""
        found = {"same": 0, "within": 0}
        for first, second in couples(57, 5) + list(TELLING.values()) + [(ONES, ONES), (ONES, TWOS)]:
            pairs = tuple(sorted(pairs_with_sizes(first, second)))
            same = all(first[1][one] == second[1][other] for one, other in pairs)
            within = all(second[1][other] or not first[1][one] for one, other in pairs)
            self.same(same_evidence(first, second), pairs if same else None)
            self.same(within_evidence(first, second), pairs if within else None)
            self.same(accepts_same(first, second, pairs), same)
            self.same(accepts_within(first, second, pairs), within)
            found["same"] += same
            found["within"] += within and not same
        self.assertGreater(min(found.values()), 10)

    def test_all_relations(self):
        """Points 1, 41 and 42: of all relations just the right ones, and only if the automata are the same."""
        for first, second in couples(58, 1, [(0,), (0, 1), (0, 2), (0, 0, 2), (1,), (1, 2), (0, 1, 2)]):
            pairs = [(one, other) for one in range(len(first[1])) for other in range(len(second[1]))]
            if len(pairs) > 9:
                continue
            same, within = telling_tree(first, second) is None, within_evidence(first, second) is not None
            accepted = [False, False]
            for size in range(len(pairs) + 1):
                for value in itertools.combinations(pairs, size):
                    told = [accepts_same(first, second, value), accepts_within(first, second, value)]
                    self.same(told, [judged(first, second, value, False), judged(first, second, value, True)])
                    accepted = [accepted[0] or told[0], accepted[1] or told[1]]
            self.same(accepted, [same, within])

    def test_relations_of_0_and_16_pairs(self):
        every = tuple([(one, other) for one in range(4) for other in range(4)])
        flags = ((0, 1, 1), (True,) * 4, ONES[2]), ((0, 1, 1), (True,) * 4, TWOS[2])
        self.same(same_evidence(*flags), every)
        self.shows(accepts_same(*flags, every), "True")
        self.shows(accepts_within(*flags, every), "True")
        self.shows(accepts_same(*flags, every + ((3, 3),)), "False")
        self.shows(accepts_same(*flags, every[:15]), "False")
        self.shows(accepts_same(ONES, TWOS, every), "False")
        self.shows((same_evidence(NONE, NONE), accepts_same(NONE, NONE, ()), accepts_within(NONE, NONE, ())),
                   "((), True, True)")
        self.shows((accepts_same(EVEN, EVEN, ()), accepts_within(EVEN, EVEN, ())), "(False, False)")
        unlike = ((1,), (False,), ((0,),)), ((1,), (True,), ((0,),))
        self.shows((same_evidence(*unlike), accepts_same(*unlike, ()), accepts_same(*unlike, ((0, 0),)),
                    accepts_within(*unlike, ((0, 0),))), "((), True, False, True)")

    def test_other_evidence_than_the_program_s_own(self):
        """A relation with more pairs than those of trees, which is closed and has no wrong pair."""
        first = ((0, 1), (True, False, True), (0, (1, 0, 2)))
        self.shows(same_evidence(first, EVEN), "((0, 0), (1, 1))")
        self.shows(accepts_same(first, EVEN, ((0, 0), (1, 1), (2, 0))), "False")
        second = ((0, 1), (True, False, True), (0, (1, 0, 2)))
        self.shows(accepts_same(first, second, ((0, 0), (1, 1), (2, 2))), "True")
        self.shows(accepts_within(first, second, ((0, 0), (1, 1), (1, 2), (2, 2))), "False")
        self.shows(accepts_within(first, second, ((0, 0), (0, 2), (1, 1), (1, 2), (2, 2))), "True")
        self.shows(accepts_same(first, second, ((0, 0), (0, 2), (1, 1), (1, 2), (2, 2))), "False")

    def test_within_is_not_the_same(self):
        none = ((0, 1), (False,), (0, (0,)))
        self.shows(within_evidence(none, EVEN), "((0, 0), (0, 1))")
        self.shows((within_evidence(EVEN, none), same_evidence(none, EVEN)), "(None, None)")
        self.shows((accepts_within(none, EVEN, ((0, 0), (0, 1))), accepts_same(none, EVEN, ((0, 0), (0, 1))),
                    accepts_within(EVEN, none, ((0, 0), (1, 0)))), "(True, False, False)")

    def test_one_thing_changed(self):
        for first, second, value in [
            (EVEN, THREE, ((0, 0), (0, 2), (1, 1), (1, 3))), (THREE, EVEN, ((0, 0), (1, 1), (2, 0), (3, 1))),
            (NONE, NONE, ()), (without(EVEN, SOME), EVEN, ((0, 0), (1, 0), (1, 1))),
            (SOME, ((0, 1), (True,), (0, (0,))), ((0, 0), (1, 0))),
        ]:
            self.shows(accepts_within(first, second, value), "True")
            for at, other in enumerate([value] + changed(value)):
                with self.subTest(at=at):
                    self.same(accepts_same(first, second, other), judged(first, second, other, False))
                    self.same(accepts_within(first, second, other), judged(first, second, other, True))

    def test_what_is_no_evidence(self):
        for value in [None, True, 0, "", [], [(0, 0), (1, 1)], ([0, 0], [1, 1]), ((0, 0), (True, True)),
                      ((False, 0), (1, 1)), ((0, 0), (1, 1), (1, 1)), ((1, 1), (0, 0)), ((0, 0),),
                      ((0, 0), (1, 1), (2, 2)), ((-1, -1), (0, 0), (1, 1)), ((-1, 1), (0, 0), (1, 1)),
                      ((0, 0), (1, -1), (1, 1)), ((0, -2), (1, -1)),
                      ((0, 0, 0), (1, 1, 1)), ((0,), (1,)), (0, 1), ((0, None), (1, 1)),
                      helpers.DEEP, helpers.DEEP_LIST, (helpers.DEEP,), ((0, helpers.DEEP), (1, 1)),
                      ((0, 0), (1, 1), helpers.DEEP_LIST), ((0, 0), (1, 1)) * 50000]:
            self.shows((accepts_same(EVEN, EVEN, value), accepts_within(EVEN, EVEN, value)), "(False, False)")
        self.shows(accepts_same(EVEN, EVEN, ((0, 0), (1, 1))), "True")


class WrongArguments(Case):
    def test_each_is_refused_by_its_name_and_the_first_of_several(self):
        """Points 8 and 47."""
        other_arities = [((0,), (True,), (0,)), ((0, 2), (True,), (0, ((0,),))), ((1, 0), (True,), ((0,), 0)),
                         ((0, 1, 0), (True,), (0, (0,), 0)), ((0, 1), (True,) * 5, (0, (0,) * 5))]
        great = [both(ONES, TWOS)]
        for function in (telling_tree, both, either, without, same_evidence, within_evidence):
            self.refuses_in_order(function, (EVEN, SOME), [
                ("first", helpers.WRONG_AUTOMATA + great), ("second", helpers.WRONG_AUTOMATA + other_arities)])
        for function in (accepts_same, accepts_within):
            self.refuses_in_order(function, (EVEN, SOME, ()), [
                ("first", helpers.WRONG_AUTOMATA + great), ("second", helpers.WRONG_AUTOMATA + other_arities)])
        self.refuses_in_order(minimal, (EVEN,), [("automaton", helpers.WRONG_AUTOMATA + great)])

    def test_wrong_values_go_ahead_of_what_is_too_large(self):
        first, second = TELLING[31]
        self.bad("first", telling_tree, None, second)
        self.bad("second", telling_tree, first, EVEN)
        self.too_large("tree", telling_tree, first, second)

    def test_the_judges_refuse_arguments_ahead_of_any_value(self):
        for function in (accepts_same, accepts_within):
            self.bad("first", function, None, None, None)
            self.bad("second", function, EVEN, NONE, helpers.DEEP)

    def test_arguments_stay_and_equal_calls_return_equal_results(self):
        value = [[0, 0], [1, 1]]
        for _ in range(2):
            self.shows(accepts_same(EVEN, EVEN, value), "False")
            self.shows(minimal(THREE), "((0, 1), (True, False), (0, (1, 0)))")
            self.shows(same_evidence(EVEN, EVEN), "((0, 0), (1, 1))")
        self.assertEqual(value, [[0, 0], [1, 1]])


if __name__ == "__main__":
    unittest.main()
