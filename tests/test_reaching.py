"""Evidence that states are reached or not: points 24, 25, 27 and 28, and rootfirst/reaching.py."""

import itertools
import unittest

from rootfirst.reaching import accepts_state, state_evidence
from rootfirst.runs import accepts_run, fitting, is_automaton, reached, run, takes, tree_state
from tests import helpers
from tests.helpers import Case, all_trees, changed, closed, is_one_of, is_plain_tree, many_automata, nodes, state

EVEN = ((0, 0, 2), (True, False, False), (0, 1, ((0, 1, 2), (1, 0, 2), (2, 2, 2))))
FULL = ((0, 2), (False, False, False, True), (0, ((1, 0, 0, 0), (0, 2, 0, 0), (0, 0, 3, 0), (0, 0, 0, 0))))
MIXED = ((0, 1, 2), (False, True, False), (1, (2, 0, 1), ((0, 1, 2), (2, 2, 0), (1, 0, 0))))
PARTLY = ((0, 1, 2), (False, True, False, True), (
    1, (2, 0, 1, 3), ((3, 3, 0, 0), (3, 1, 1, 0), (1, 1, 2, 0), (0, 1, 2, 3))))
CLOSED_TWICE = ((0, 1), (True, False, False, False), (0, (0, 1, 3, 2)))
NO_LEAF = ((1, 2), (True, False), ((1, 0), ((0, 1), (1, 0))))


def judged(automaton, number, value):
    """Point 25, word by word."""
    if type(value) is not tuple or len(value) != 2 or type(value[0]) is not str:
        return False
    many = len(automaton[1])
    if value[0] == "some":
        return is_plain_tree(automaton[0], value[1]) and state(automaton, value[1]) == number
    if value[0] != "none" or type(value[1]) is not tuple or not all(is_one_of(one, many) for one in value[1]):
        return False
    return list(value[1]) == sorted(set(value[1])) and closed(automaton, value[1]) and number not in value[1]


class Examples(Case):
    def test_the_interface(self):
        self.shows((is_automaton(EVEN), tree_state(EVEN, (2, (1,), (0,))), takes(EVEN, (2, (1,), (1,))),
                    reached(EVEN)), "(True, 1, True, (0, 1))")
        self.shows((run(EVEN, (2, (1,), (0,))), accepts_run(EVEN, (1,), (((), 1),))),
                   "((((), 1), ((0,), 1), ((1,), 0)), True)")
        self.shows((fitting(EVEN, (2, (1,), (0,)), (1,)), fitting(EVEN, (2, (1,), (0,)), ())), "((1,), (0,))")
        self.shows((state_evidence(EVEN, 2), state_evidence(EVEN, 1), accepts_state(EVEN, 2, ("none", (0, 1))),
                    accepts_state(EVEN, 1, ("some", (2, (0,), (1,))))),
                   "(('none', (0, 1)), ('some', (1,)), True, True)")

    def test_point_28(self):
        self.shows(state_evidence(EVEN, 0), "('some', (0,))")
        self.shows([accepts_state(EVEN, number, ("none", (0, 1))) for number in range(3)], "[False, False, True]")


class Evidence(Case):
    def test_the_told_evidence_is_accepted(self):
        """Point 25, with the first tree that has the state, or with the reached states."""
        for automaton in many_automata(31, 3) + [EVEN, FULL, MIXED, PARTLY, NO_LEAF, CLOSED_TWICE]:
            told = helpers.reached_by_trees(automaton)
            small = {}
            for tree in all_trees(automaton[0], 5):
                small.setdefault(state(automaton, tree), tree)
            for number in range(len(automaton[1])):
                evidence = state_evidence(automaton, number)
                self.shows(accepts_state(automaton, number, evidence), "True")
                self.assertTrue(judged(automaton, number, evidence))
                if number not in told:
                    self.same(evidence, ("none", told))
                elif number in small:
                    self.same(evidence, ("some", small[number]))
                else:
                    self.assertEqual(evidence[0], "some")
                    self.assertTrue(5 < nodes(evidence[1]) <= 15)

    def test_exactly_one_word_is_accepted(self):
        """Points 1 and 25: of all sets, and of all small trees, just what is right."""
        for automaton in many_automata(32, 1) + [EVEN, MIXED, PARTLY, NO_LEAF, CLOSED_TWICE]:
            many = len(automaton[1])
            told = helpers.reached_by_trees(automaton)
            sets = [one for size in range(many + 1) for one in itertools.combinations(range(many), size)]
            trees = all_trees(automaton[0], 4)
            for number in range(many):
                words = []
                for value in [("none", one) for one in sets] + [("some", tree) for tree in trees]:
                    accepted = accepts_state(automaton, number, value)
                    self.same(accepted, judged(automaton, number, value))
                    words += [value[0]] if accepted else []
                self.assertEqual("none" in words, number not in told)
                self.assertTrue(number in told or "some" not in words)

    def test_other_evidence_than_the_program_s_own(self):
        self.shows(accepts_state(EVEN, 1, ("some", (2, (1,), (2, (0,), (0,))))), "True")
        self.shows(accepts_state(CLOSED_TWICE, 3, ("none", (0,))), "True")
        self.shows(accepts_state(CLOSED_TWICE, 3, ("none", (0, 1))), "True")
        self.shows(accepts_state(CLOSED_TWICE, 1, ("none", (0, 2, 3))), "True")
        self.shows(accepts_state(CLOSED_TWICE, 1, ("none", (0, 2))), "False")
        self.shows(accepts_state(CLOSED_TWICE, 1, ("none", (-1, 0, 2))), "False")
        self.shows(accepts_state(CLOSED_TWICE, 1, ("none", (-1, 0, 2, 3))), "False")
        self.shows(accepts_state(CLOSED_TWICE, 0, ("none", (1, 2, 3))), "False")

    def test_trees_of_15_and_16_nodes(self):
        tree = helpers.perfect_tree(4, symbol=1)
        self.same(state_evidence(FULL, 3), ("some", tree))
        self.shows(accepts_state(FULL, 3, ("some", tree)), "True")
        chain = ((0, 1), (True,), (0, (0,)))
        self.shows(accepts_state(chain, 0, ("some", helpers.nested_tree(14))), "True")
        self.shows(accepts_state(chain, 0, ("some", helpers.nested_tree(15))), "False")
        self.shows(accepts_state(chain, 0, ("some", helpers.nested_tree(5000))), "False")

    def test_automata_without_trees(self):
        for number in range(2):
            self.shows(state_evidence(NO_LEAF, number), "('none', ())")
            self.shows(accepts_state(NO_LEAF, number, ("none", ())), "True")
            self.shows(accepts_state(NO_LEAF, number, ("some", (0, (0,)))), "False")

    def test_automata_of_1_and_4_states(self):
        self.shows(state_evidence(((0,), (True,), (0,)), 0), "('some', (0,))")
        self.shows([state_evidence(CLOSED_TWICE, number)[0] for number in range(4)],
                   "['some', 'none', 'none', 'none']")

    def test_one_thing_changed(self):
        for automaton, number, evidence in [
            (EVEN, 2, ("none", (0, 1))), (EVEN, 1, ("some", (2, (1,), (0,)))), (CLOSED_TWICE, 1, ("none", (0, 2, 3))),
            (MIXED, 0, state_evidence(MIXED, 0)), (PARTLY, 3, state_evidence(PARTLY, 3)), (NO_LEAF, 0, ("none", ())),
        ]:
            self.shows(accepts_state(automaton, number, evidence), "True")
            for at, value in enumerate(changed(evidence)):
                with self.subTest(number=number, at=at):
                    self.same(accepts_state(automaton, number, value), judged(automaton, number, value))

    def test_what_is_no_evidence(self):
        for value in [None, True, 0, "some", "none", (), ("some",), ("none",), ["none", (0, 1)], ("none", [0, 1]),
                      ("none", (1, 0)), ("none", (0, 0, 1)), ("none", (False, True)), ("none", (0, 1, 2)),
                      ("none", (0, 1, 3)), ("none", (-1, 0, 1)), ("none", (0, 1), ()), ("some", None), ("some", (2,)),
                      ("None", (0, 1)), (0, (0, 1)), (("none",), (0, 1)), ("none", (0, 1.0)), ("none", 0),
                      helpers.DEEP, helpers.DEEP_LIST, ("none", helpers.DEEP), ("some", helpers.DEEP),
                      (helpers.DEEP, (0, 1)), ("none", (0, helpers.DEEP)), ("none", (0, 1) * 50000)]:
            self.shows(accepts_state(EVEN, 2, value), "False")


class WrongArguments(Case):
    def test_each_is_refused_by_its_name_and_the_first_of_several(self):
        """Points 8 and 27."""
        wrongs = [("automaton", helpers.WRONG_AUTOMATA), ("state", helpers.wrong_integers(0, 2))]
        self.refuses_in_order(state_evidence, (MIXED, 0), wrongs)
        self.refuses_in_order(accepts_state, (MIXED, 0, ("none", ())), wrongs)

    def test_the_judge_refuses_arguments_ahead_of_any_value(self):
        self.bad("automaton", accepts_state, None, None, None)
        self.bad("state", accepts_state, EVEN, 3, helpers.DEEP)
        self.bad("state", accepts_state, EVEN, True, ("some", (1,)))

    def test_arguments_stay_and_equal_calls_return_equal_results(self):
        value = ["none", [0, 1]]
        for _ in range(2):
            self.shows(accepts_state(EVEN, 2, value), "False")
            self.shows(state_evidence(EVEN, 2), "('none', (0, 1))")
        self.assertEqual(value, ["none", [0, 1]])


if __name__ == "__main__":
    unittest.main()
