"""Evidence that some look-ahead is enough, or that none is: points 76 to 79, 81 and 82, and rootfirst/looking.py."""

import itertools
import random
import unittest

from rootfirst.exchange import counterexample, is_closed
from rootfirst.layers import pairs
from rootfirst.lookahead import look_ahead, stable_depth
from rootfirst.looking import accepts_look, look_evidence
from rootfirst.sealing import accepts_closed, closed_evidence
from tests import helpers
from tests.helpers import (
    CHAINS, DEEP, DEEP_LIST, LOOKS, ODD, PARITY, SWAP, Case, are_tuples_of, changed, climbed_from, closed_at, is_one_of,
    is_plain_seal, is_whole, is_wrong_triple, least_look, looking_automata, made, met_with, pairs_at, plain_seal,
    reached_by_trees,
)

MIXED = ((0, 1, 2), (True, False), (0, (1, 0), ((0, 1), (1, 0))))
NO_TREES = ((1, 2), (True, False), ((1, 0), ((0, 1), (1, 0))))
# An even number of leaves, with a symbol of one child that makes a tree bad or good again.
TURNS = ((2, 0, 1), (True, False), (((0, 1), (1, 0)), 1, (1, 0)))
EVERY = ((0, 0), (0, 1), (1, 0), (1, 1))
NEVER = ("never", (1, 0), EVERY, (1, 0), ((1, 0, (1, 0)),))


def is_order(automaton, value):
    if type(value) is not tuple or not all(is_one_of(state, len(automaton[1])) for state in value):
        return False
    if len(set(value)) != len(value):
        return False
    return all(
        any(helpers.entry_state(entry, chosen) == state
            for arity, entry in zip(automaton[0], automaton[2])
            for chosen in itertools.product(value[:at], repeat=arity))
        for at, state in enumerate(value))


def judged_never(automaton, order, standing, start, climbs):
    """Point 78, word by word."""
    if not is_order(automaton, order) or not are_tuples_of(standing, 2, len(automaton[1])):
        return False
    if not all(state in order for pair in standing for state in pair):
        return False
    if not set(standing) <= made(automaton, standing) or not are_tuples_of((start,), 2, 4) or start not in standing:
        return False
    if type(climbs) is not tuple or len(climbs) > 64:
        return False
    triple = (start[0], start[1], start[1])
    for climb in climbs:
        if type(climb) is not tuple or len(climb) != 3 or not is_whole(climb[0]) or not is_one_of(climb[1], 2):
            return False
        if climb[2] is not None and not are_tuples_of((climb[2],), 2, 4):
            return False
        told = climbed_from(automaton, triple, standing)
        if climb not in told:
            return False
        triple = told[climb]
    return is_wrong_triple(automaton, triple)


def judged(automaton, value):
    """Points 77 and 78, word by word."""
    if type(value) is tuple and len(value) == 3 and type(value[0]) is str and value[0] == "enough":
        return is_whole(value[1]) and 1 <= value[1] <= 17 and is_plain_seal(automaton, value[1], value[2])
    if type(value) is tuple and len(value) == 5 and type(value[0]) is str and value[0] == "never":
        return judged_never(automaton, *value[1:])
    return False


def enough(automaton, depth):
    """The told evidence for any depth."""
    return ("enough", depth, plain_seal(automaton, depth))


class Examples(Case):
    def test_the_interface(self):
        self.shows(look_evidence(SWAP)[:2], "('enough', 2)")
        self.shows((stable_depth(PARITY), look_ahead(PARITY), look_evidence(PARITY)[0],
                    accepts_look(PARITY, look_evidence(PARITY))), "(0, None, 'never', True)")
        self.shows(accepts_look(PARITY, ("never", (1, 0), ((0, 0), (0, 1), (1, 0), (1, 1)), (1, 0), ((1, 0, (1, 0)),))),
                   "True")

    def test_point_82(self):
        self.same(look_evidence(SWAP), ("enough", 2, closed_evidence(SWAP, 2)))
        self.assertEqual(look_evidence(CHAINS)[0], "never")
        self.shows(accepts_look(CHAINS, look_evidence(CHAINS)), "True")


class Told(Case):
    def test_for_many_automata(self):
        """Points 77 to 79."""
        words = {"enough": 0, "never": 0}
        for automaton in looking_automata(601, 2):
            value = look_evidence(automaton)
            least = least_look(automaton)
            self.shows((accepts_look(automaton, value), judged(automaton, value)), "(True, True)")
            self.assertEqual(value[0], "never" if least is None else "enough")
            words[value[0]] += 1
            if least is not None:
                self.same(value, enough(automaton, least))
                self.shows(accepts_closed(automaton, least, value[2]), "True")
            else:
                self.assertEqual(sorted(value[1]), list(reached_by_trees(automaton)))
                self.shows([is_closed(automaton, depth) for depth in (1, 2, 12)], "[False, False, False]")
        self.assertGreater(min(words.values()), 40)

    def test_looks(self):
        for least, automaton in LOOKS:
            value = look_evidence(automaton)
            self.same(value[:2] if least else value[0], ("enough", least) if least else "never")
            self.shows(accepts_look(automaton, value), "True")

    def test_1_and_4_states_and_no_trees(self):
        self.shows(look_evidence(((0, 2), (True,), (0, ((0,),)))), "('enough', 1, ((0,), (((0, 0),),), ((0, 0, 0),)))")
        self.shows(look_evidence(NO_TREES), "('enough', 1, ((), ((),), ()))")
        self.shows(look_evidence(((0, 2), (False,), (0, ((0,),))))[:2], "('enough', 1)")
        self.assertEqual([len(look_evidence(automaton)[2]) for _, automaton in LOOKS[-1:]], [12])

    def test_a_counterexample_for_each_look_ahead(self):
        """Point 78: what never is enough is not closed at any depth."""
        for automaton in (ODD, CHAINS, TURNS):
            self.shows([closed_at(automaton, depth) for depth in range(1, 20)], str([False] * 19))
        self.assertEqual([counterexample(automaton, 1, 6) is None for automaton in (ODD, CHAINS, TURNS)], [False] * 3)


class Standing(Case):
    def test_all_standing_sets(self):
        """Point 76: their pairs are pairs at every depth, and those at the stable depth are the greatest one."""
        for automaton in (PARITY, TURNS, MIXED, ((0, 0, 2), (True, False), (0, 1, ((0, 0), (0, 1)))),
                          ((0, 1), (True, False), (0, (1, 1)))):
            order = look_evidence(automaton)[1] if look_evidence(automaton)[0] == "never" else ()
            greatest = pairs(automaton, 12)
            for size in range(5):
                for chosen in itertools.combinations(sorted(pairs_at(automaton, 0)), size):
                    if set(chosen) <= made(automaton, chosen):
                        self.assertLessEqual(set(chosen), set(greatest))
                    if order:
                        for start in chosen:
                            value = ("never", order, chosen, start, ())
                            self.shows(accepts_look(automaton, value), "False")
            self.assertLessEqual(set(greatest), made(automaton, greatest))

    def test_told_standing_set(self):
        for automaton in looking_automata(602, 1):
            value = look_evidence(automaton)
            if value[0] == "never":
                self.assertLessEqual(set(value[2]), made(automaton, value[2]))
                self.assertLessEqual(set(value[2]), set(pairs(automaton, 12)))


class Enough(Case):
    def test_look_aheads_1_17_and_18(self):
        """Point 77."""
        for automaton in (((0,), (True,), (0,)), ((0, 2), (False, True), (0, ((1, 1), (1, 1)))), NO_TREES):
            for depth in (1, 2, 13, 16, 17):
                self.shows(accepts_look(automaton, enough(automaton, depth)), "True")
            self.shows(accepts_look(automaton, enough(automaton, 18)), "False")
            self.shows(accepts_look(automaton, ("enough", 17, enough(automaton, 18)[2])), "False")
            self.shows(accepts_look(automaton, ("enough", 18, enough(automaton, 17)[2])), "False")
            self.shows(accepts_look(automaton, ("enough", 0, ((), (), ()))), "False")
        for depth in (2, 3, 12, 17):
            self.shows(accepts_look(SWAP, enough(SWAP, depth)), "True")
            self.shows(accepts_look(CHAINS, ("enough", depth, enough(SWAP, depth)[2])), "False")

    def test_a_depth_that_is_not_enough(self):
        self.shows(accepts_look(SWAP, ("enough", 1, closed_evidence(SWAP, 2))), "False")
        self.shows(accepts_look(SWAP, ("enough", 1, None)), "False")
        states, layers, triples = closed_evidence(SWAP, 2)
        self.shows(accepts_look(SWAP, ("enough", 1, (states, layers[:1], triples))), "False")
        self.shows(accepts_look(SWAP, ("enough", 2, (states, layers, triples))), "True")


class Never(Case):
    def test_all_values_of_two_states(self):
        """Points 1, 78 and 79: with at most two climbs, right ones only, and only if no look-ahead is enough."""
        chance = random.Random(604)
        orders = [(), (0,), (1,), (0, 1), (1, 0), (0, 0), (1, 1)]
        for automaton in (PARITY, TURNS, ((0, 0, 2), (True, False), (0, 1, ((0, 0), (0, 1)))),
                          ((0, 2), (True, False), (0, ((1, 1), (1, 0)))),
                          ((0, 2), (False, True), (0, ((1, 0), (1, 1)))),
                          ((0, 1), (True, False), (0, (1, 1)))):
            accepted = False
            climbs = [(symbol, child, pair) for symbol in range(len(automaton[0])) for child in (0, 1)
                      for pair in (None,) + EVERY]
            formed = [climb for climb in climbs if climb in climbed_from(automaton, (0, 0, 0), EVERY)]
            chains = [()] + [(climb,) for climb in climbs] + list(itertools.product(formed, repeat=2))
            standing = [chosen for size in range(5) for chosen in itertools.combinations(EVERY, size)]
            for order, chosen in itertools.product(orders, standing):
                right = is_order(automaton, order) and set(chosen) <= made(automaton, chosen)
                for start in EVERY:
                    for chain in chains if right else chance.sample(chains[:len(climbs)], 6):
                        value = ("never", order, chosen, start, chain)
                        accepts = accepts_look(automaton, value)
                        self.same(accepts, judged(automaton, value))
                        accepted = accepted or accepts
            self.same(accepted, least_look(automaton) is None)

    def test_64_and_65_climbs(self):
        """Beside the pair (0, 0) of even trees a climb changes nothing."""
        stay, turn = (1, 0, (0, 0)), (1, 0, (1, 0))
        for many, accepted in [(0, False), (1, True), (2, True), (63, True), (64, True), (65, False), (100, False)]:
            for at in (0, many // 2, many - 1):
                climbs = (stay,) * at + (turn,) * (many > 0) + (stay,) * (many - at - 1)
                self.assertEqual(len(climbs), many)
                self.same(accepts_look(PARITY, ("never", (1, 0), EVERY, (1, 0), climbs)), accepted)
        self.shows(accepts_look(PARITY, ("never", (1, 0), EVERY, (1, 0), (stay,) * 64)), "False")
        self.shows(accepts_look(PARITY, ("never", (1, 0), EVERY, (1, 0), (turn,) * 63)), "True")
        self.shows(accepts_look(PARITY, ("never", (1, 0), EVERY, (1, 0), (turn,) * 64)), "False")

    def test_other_evidence_than_the_program_s_own(self):
        self.shows(accepts_look(PARITY, ("never", (1, 0), EVERY, (0, 1), ((1, 0, (0, 1)),))), "True")
        self.shows(accepts_look(PARITY, ("never", (1, 0), EVERY, (0, 1), ((1, 1, (0, 1)),))), "True")
        self.shows(accepts_look(PARITY, ("never", (1, 0), ((0, 0), (0, 1), (1, 1)), (0, 1), ((1, 1, (0, 1)),))), "True")
        self.shows(accepts_look(PARITY, ("never", (1, 0), ((0, 0), (0, 1)), (0, 1), ((1, 1, (0, 1)),))), "True")
        self.shows(accepts_look(PARITY, ("never", (1, 0), ((0, 1), (1, 1)), (0, 1), ((1, 1, (0, 1)),))), "False")
        self.shows(accepts_look(PARITY, ("never", (0, 1), EVERY, (0, 1), ((1, 0, (0, 1)),))), "False")
        self.shows(accepts_look(PARITY, ("never", (1,), EVERY, (0, 1), ((1, 0, (0, 1)),))), "False")
        self.shows(accepts_look(TURNS, ("never", (1, 0), EVERY, (1, 0), ((2, 0, None), (0, 0, (0, 1)), (2, 0, None),
                                                                      (2, 0, None)))), "True")
        self.shows(accepts_look(TURNS, ("never", (1, 0), EVERY, (1, 0), ((2, 1, None), (0, 0, (0, 1)), (2, 0, None),
                                                                      (2, 0, None)))), "False")
        self.shows(accepts_look(TURNS, ("never", (1, 0), EVERY, (1, 0), ((2, 0, (0, 0)), (0, 0, (0, 1))))), "False")
        self.shows(accepts_look(TURNS, ("never", (1, 0), EVERY, (1, 0), ((0, 0, None),))), "False")

    def test_each_state_stands_in_the_order_once(self):
        more = ((0, 2), (True, False, False), (1, ((0, 1, 2), (1, 0, 2), (2, 2, 2))))
        for order, accepted in [((1, 0), True), ((1, 0, 1), False), ((1, 0, 0), False), ((1, 1, 0), False),
                                ((1, 0, 2), False), ((1, 2, 0), False), ((0, 1, 2), False), ((1, 0, 1, 0), False)]:
            value = ("never", order) + NEVER[2:]
            self.same(accepts_look(more, value), accepted)
            self.same(judged(more, value), accepted)

    def test_states_and_pairs_that_some_symbol_must_make(self):
        """With the good leaf 0 alone a state that no tree has cannot stand in the order."""
        alone = ((0, 2), (True, False), (0, ((0, 1), (1, 0))))
        self.shows(look_evidence(alone)[:2], "('enough', 1)")
        self.shows(accepts_look(alone, ("never", (0, 1), EVERY, (1, 0), ((1, 0, (1, 0)),))), "False")
        self.shows(accepts_look(alone, ("never", (1, 0), EVERY, (1, 0), ((1, 0, (1, 0)),))), "False")
        # At the depth 1 no symbol makes the pairs of the leaf and of what is above it.
        split = ((0, 2), (False, True, False, False), (2, ((3,) * 4, (3,) * 4, (3, 3, 0, 3), (1, 3, 3, 3))))
        for standing in [tuple(sorted(pairs_at(split, depth))) for depth in (0, 1, 2, 3)]:
            for start in standing:
                for climb in itertools.product((1,), (0, 1), standing):
                    self.shows(accepts_look(split, ("never", (2, 0, 1, 3), standing, start, (climb,))), "False")

    def test_one_thing_changed(self):
        for automaton, value in [(PARITY, NEVER), (PARITY, look_evidence(PARITY)), (ODD, look_evidence(ODD)),
                                 (TURNS, ("never", (1, 0), EVERY, (1, 0), ((2, 0, None), (0, 0, (0, 1)), (2, 0, None),
                                                                           (2, 0, None)))),
                                 (TURNS, look_evidence(TURNS)),
                                 (((0, 1), (True, False), (0, (1, 1))), ("enough", 2, (
                                     (0, 1), (EVERY, ((0, 0), (1, 1))), ((0, 0, 0), (1, 1, 1))))),
                                 (NO_TREES, look_evidence(NO_TREES))]:
            self.shows(accepts_look(automaton, value), "True")
            for at, other in enumerate([value] + changed(value)):
                with self.subTest(at=at):
                    self.same(accepts_look(automaton, other), judged(automaton, other))

    def test_what_is_no_evidence(self):
        self.shows(accepts_look(PARITY, NEVER), "True")
        for value in [None, True, 0, "never", [], (), list(NEVER), NEVER[:4], NEVER + ((),), ("Never",) + NEVER[1:],
                      ("enough",) + NEVER[1:], (None,) + NEVER[1:], ("never", [1, 0]) + NEVER[2:],
                      ("never", (True, False)) + NEVER[2:], ("never", (1, 0, 1)) + NEVER[2:],
                      ("never", (1, 0, 2)) + NEVER[2:], ("never", (1, 0, -1)) + NEVER[2:],
                      NEVER[:2] + (list(EVERY),) + NEVER[3:], NEVER[:2] + (EVERY[::-1],) + NEVER[3:],
                      NEVER[:2] + (EVERY + ((1, 1),),) + NEVER[3:],
                      NEVER[:2] + (((False, 0),) + EVERY[1:],) + NEVER[3:],
                      NEVER[:3] + ([1, 0], NEVER[4]), NEVER[:3] + ((True, 0), NEVER[4]), NEVER[:3] + (None, NEVER[4]),
                      NEVER[:3] + ((1,), NEVER[4]), NEVER[:3] + ((1, 2), NEVER[4]), NEVER[:4] + (list(NEVER[4]),),
                      NEVER[:4] + (([1, 0, (1, 0)],),), NEVER[:4] + (((1, 0, [1, 0]),),),
                      NEVER[:4] + (((True, 0, (1, 0)),),), NEVER[:4] + (((1, False, (1, 0)),),),
                      NEVER[:4] + (((1, 0, (True, 0)),),), NEVER[:4] + (((1, 0, None),),), NEVER[:4] + (((1, 0),),),
                      NEVER[:4] + (((0, 0, (1, 0)),),), NEVER[:4] + (((0, 0, None),),),
                      NEVER[:4] + (((2, 0, (1, 0)),),),
                      NEVER[:4] + (((-1, 0, (1, 0)),),), NEVER[:4] + (((1, 2, (1, 0)),),), NEVER[:4] + ((None,),),
                      NEVER[:4] + (None,), NEVER[:4] + ((),), DEEP, DEEP_LIST, (DEEP,) + NEVER[1:],
                      ("never", DEEP) + NEVER[2:], NEVER[:2] + (DEEP,) + NEVER[3:], NEVER[:3] + (DEEP, NEVER[4]),
                      NEVER[:4] + (DEEP,), NEVER[:4] + ((DEEP,),), NEVER[:4] + (((1, 0, DEEP),),),
                      NEVER[:4] + (((DEEP, 0, (1, 0)),),), NEVER[:4] + (DEEP_LIST,), NEVER[:4] + (NEVER[4] * 100000,),
                      ("never", (1, 0) * 50000) + NEVER[2:], ("enough", DEEP, DEEP), ("enough", 1, DEEP),
                      ("enough", True, closed_evidence(NO_TREES, 1)), ("enough", 10 ** 30, DEEP_LIST)]:
            self.shows(accepts_look(PARITY, value), "False")
        self.shows(accepts_look(NO_TREES, ("enough", True, closed_evidence(NO_TREES, 1))), "False")
        self.shows(accepts_look(NO_TREES, ("enough", 1, closed_evidence(NO_TREES, 1))), "True")
        self.shows(accepts_look(NO_TREES, ("never", (), (), (0, 0), ())), "False")

    def test_the_evidence_of_the_other_word(self):
        """Point 79: exactly one of the two words."""
        for automaton in looking_automata(603, 1):
            layer = pairs_at(automaton, 12)
            triples = met_with(automaton, layer)
            if look_ahead(automaton) is None:
                value = (reached_by_trees(automaton), (tuple(sorted(layer)),) * 17, tuple(sorted(triples)))
                self.shows(accepts_look(automaton, ("enough", 17, value)), "False")
            else:
                order = reached_by_trees(automaton)
                for pair in sorted(layer):
                    for climb in climbed_from(automaton, (pair[0], pair[1], pair[1]), layer):
                        for turned in (order, order[::-1]):
                            value = ("never", turned, tuple(sorted(layer)), pair, (climb,))
                            self.shows(accepts_look(automaton, value), "False")


class WrongArguments(Case):
    def test_each_is_refused_by_its_name(self):
        """Points 8 and 81."""
        self.refuses_in_order(look_evidence, (MIXED,), [("automaton", helpers.WRONG_AUTOMATA)])
        self.refuses_in_order(accepts_look, (MIXED, ()), [("automaton", helpers.WRONG_AUTOMATA)])

    def test_arguments_ahead_of_any_value(self):
        self.bad("automaton", accepts_look, None, None)
        self.bad("automaton", accepts_look, ((0,), (1,), (0,)), DEEP)

    def test_arguments_stay_and_equal_calls_return_equal_results(self):
        value = ["never", [1, 0], [[0, 0], [0, 1], [1, 0], [1, 1]], [1, 0], [[1, 0, [1, 0]]]]
        for _ in range(2):
            self.shows(accepts_look(PARITY, value), "False")
            self.shows(look_evidence(NO_TREES), "('enough', 1, ((), ((),), ()))")
        self.same(look_evidence(CHAINS), look_evidence(CHAINS))
        self.assertEqual(value, ["never", [1, 0], [[0, 0], [0, 1], [1, 0], [1, 1]], [1, 0], [[1, 0, [1, 0]]]])


if __name__ == "__main__":
    unittest.main()
