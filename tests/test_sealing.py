"""Evidence that good trees are closed under exchange: points 67 to 69, and rootfirst/sealing.py."""

import itertools
import random
import unittest

from rootfirst.exchange import counterexample, is_closed
from rootfirst.sealing import accepts_closed, closed_evidence
from tests import helpers
from tests.helpers import (
    CHAINS, DEEP, DEEP_LIST, LOOKS, ODD, PARITY, SWAP, Case, changed, closed_at, is_plain_seal, is_wrong_triple,
    looking_automata, met_with, pairs_at, plain_seal, reached_by_trees,
)

MIXED = ((0, 1, 2), (True, False), (0, (1, 0), ((0, 1), (1, 0))))
NO_TREES = ((1, 2), (True, False), ((1, 0), ((0, 1), (1, 0))))
# One leaf and one symbol with a child: the state 0 alone is reached, and 1 leads to itself.
APART = ((0, 1), (True, False), (0, (0, 1)))


class Examples(Case):
    def test_the_interface(self):
        self.shows((accepts_closed(SWAP, 2, closed_evidence(SWAP, 2)), closed_evidence(SWAP, 1) is None,
                    accepts_closed(SWAP, 1, ((), ((),), ()))), "(True, True, False)")

    def test_told_evidence_word_by_word(self):
        self.shows(closed_evidence(APART, 2), "((0,), (((0, 0),), ((0, 0),)), ((0, 0, 0),))")
        self.shows(closed_evidence(NO_TREES, 3), "((), ((), (), ()), ())")
        self.shows(closed_evidence(((0,), (False, True), (1,)), 1), "((1,), (((1, 1),),), ((1, 1, 1),))")


class Told(Case):
    def test_for_many_automata(self):
        """Points 66 to 68: accepted, and there exactly if the good trees are closed."""
        kinds = {True: 0, False: 0}
        for automaton in looking_automata(401, 2):
            for depth in (1, 2, 3, 4):
                value = closed_evidence(automaton, depth)
                self.same(value, plain_seal(automaton, depth))
                self.same(value is not None, is_closed(automaton, depth))
                self.same(accepts_closed(automaton, depth, value), value is not None)
                kinds[value is not None] += 1
                if value is not None:
                    self.assertIsNone(counterexample(automaton, depth, 3))
                    for other in (depth - 1, depth + 1):
                        if other:
                            self.shows(accepts_closed(automaton, other, value), "False")
        self.assertGreater(min(kinds.values()), 100)

    def test_depths_1_and_12(self):
        for least, automaton in LOOKS:
            for depth in (1, 11, 12):
                value = closed_evidence(automaton, depth)
                self.same(value, plain_seal(automaton, depth))
                self.same(value is None, least is None or depth < least)
                self.same(accepts_closed(automaton, depth, value), value is not None)

    def test_the_layers_go_down(self):
        value = closed_evidence(LOOKS[-5][1], 6)
        self.assertEqual(LOOKS[-5][0], 4)
        sizes = [len(layer) for layer in value[1]]
        self.assertEqual(sizes, sorted(sizes, reverse=True))
        self.assertGreater(len(set(sizes)), 3)
        self.shows(accepts_closed(LOOKS[-5][1], 6, value), "True")

    def test_automata_of_1_and_4_states(self):
        one = ((0, 2), (True,), (0, ((0,),)))
        self.shows(closed_evidence(one, 1), "((0,), (((0, 0),),), ((0, 0, 0),))")
        four = ((0, 1), (True, False, False, False), (0, (1, 2, 3, 3)))
        self.assertEqual([len(closed_evidence(four, depth)[1][-1]) for depth in (1, 2, 3, 4, 5)], [16, 10, 6, 4, 4])
        self.same(closed_evidence(four, 3), plain_seal(four, 3))


class Judge(Case):
    def test_all_evidence_of_two_states(self):
        """Points 1 and 67: of all values of this form just the right ones, and only if the good trees are closed."""
        pairs = list(itertools.product(range(2), repeat=2))
        triples = list(itertools.product(range(2), repeat=3))
        kinds = {True: 0, False: 0}
        chance = random.Random(402)
        for automaton in [ODD, APART, ((0, 0, 2), (True, False), (0, 1, ((0, 0), (0, 1)))),
                          ((0, 2), (False, True), (0, ((1, 1), (1, 1))))]:
            accepted = False
            for chosen in itertools.product((False, True), repeat=14):
                states = tuple([one for one in range(2) if chosen[one]])
                layer = tuple([pair for at, pair in enumerate(pairs) if chosen[2 + at]])
                third = tuple([one for at, one in enumerate(triples) if chosen[6 + at]])
                value = (states, (layer,), third)
                # The word-by-word judge is slow, so that it looks at all that is accepted, and at some of the rest.
                accepts = accepts_closed(automaton, 1, value)
                if accepts or chance.random() < 0.02:
                    self.same(accepts, is_plain_seal(automaton, 1, value))
                accepted = accepted or accepts
            self.same(accepted, is_closed(automaton, 1))
            kinds[accepted] += 1
        self.assertEqual(kinds, {True: 2, False: 2})

    def test_one_thing_changed(self):
        for automaton, depth in [(APART, 1), (APART, 2), (SWAP, 2), (NO_TREES, 1), (NO_TREES, 2),
                                 (((0, 1), (True, False), (0, (1, 0))), 2),
                                 (((0, 2), (False, True), (0, ((1, 1), (1, 1)))), 2)]:
            value = closed_evidence(automaton, depth)
            self.shows(accepts_closed(automaton, depth, value), "True")
            for at, other in enumerate([value] + changed(value)):
                with self.subTest(at=at):
                    self.same(accepts_closed(automaton, depth, other), is_plain_seal(automaton, depth, other))

    def test_one_item_left_out_or_put_in(self):
        """Of the told evidence nothing can be left out, and what is put in must be closed, too."""
        found = 0
        for automaton in looking_automata(403, 1):
            value = closed_evidence(automaton, 2)
            if value is None:
                continue
            states, layers, triples = value
            every = tuple(itertools.product(range(len(automaton[1])), repeat=2))
            third = itertools.product(range(len(automaton[1])), repeat=3)
            fewer = [(states[:at] + states[at + 1:], layers, triples) for at in range(len(states))]
            fewer += [(states, (layers[0][:at] + layers[0][at + 1:], layers[1]), triples)
                      for at in range(len(layers[0]))]
            fewer += [(states, (layers[0], layers[1][:at] + layers[1][at + 1:]), triples)
                      for at in range(len(layers[1]))]
            fewer += [(states, layers, triples[:at] + triples[at + 1:]) for at in range(len(triples))]
            more = [(states, (tuple(sorted(layers[0] + (pair,))), layers[1]), triples)
                    for pair in every if pair not in layers[0]]
            more += [(states, (layers[0], tuple(sorted(layers[1] + (pair,)))), triples)
                     for pair in every if pair not in layers[1]]
            more += [(states, layers, tuple(sorted(triples + (one,)))) for one in third if one not in triples][:20]
            more += [(tuple(sorted(states + (one,))), layers, triples)
                     for one in range(len(automaton[1])) if one not in states]
            for other in fewer:
                if other[0] == states:
                    self.shows(accepts_closed(automaton, 2, other), "False")
            for other in fewer + more:
                accepts = accepts_closed(automaton, 2, other)
                self.same(accepts, is_plain_seal(automaton, 2, other))
                found += accepts
        self.assertGreater(found, 50)

    def test_other_evidence_than_the_program_s_own(self):
        """A greater closed set, greater layers, and pairs and triples of states that are not in the set."""
        own = ((0,), (((0, 0),), ((0, 0),)), ((0, 0, 0),))
        self.same(closed_evidence(APART, 2), own)
        every = ((0, 0), (0, 1), (1, 0), (1, 1))
        right = ((0, 0, 0), (0, 1, 1), (1, 0, 0), (1, 1, 1))
        self.shows(accepts_closed(APART, 2, ((0, 1), (every, every), right)), "True")
        self.shows(accepts_closed(APART, 2, ((0,), (every, every), right)), "True")
        self.shows(accepts_closed(APART, 2, ((0,), (((0, 0),), every), right)), "True")
        self.shows(accepts_closed(APART, 2, ((0,), (every, ((0, 0),)), ((0, 0, 0),))), "False")
        self.shows(accepts_closed(APART, 2, ((0,), (((0, 0), (1, 1)), ((0, 0), (1, 1))),
                                             ((0, 0, 0), (1, 1, 1)))), "True")
        self.shows(accepts_closed(APART, 2, ((0,), own[1], ((0, 0, 0), (1, 0, 1)))), "True")
        self.shows(accepts_closed(APART, 2, ((0,), own[1], ((0, 0, 0), (1, 0, 1), (1, 0, 0)))), "False")
        self.shows(accepts_closed(APART, 2, ((0,), own[1], ((0, 0, 0), (1, 0, 0), (1, 0, 1)))), "True")
        self.shows(accepts_closed(APART, 2, ((0,), own[1], ((0, 0, 0), (0, 0, 1)))), "False")
        self.shows(accepts_closed(APART, 2, ((0,), ((0, 0), ((0, 0),)), ((0, 0, 0),))), "False")
        self.shows(accepts_closed(APART, 2, ((1,), (((1, 1),), ((1, 1),)), ((1, 1, 1),))), "False")
        self.shows(accepts_closed(NO_TREES, 1, ((0,), (((0, 0),),), ((0, 0, 0),))), "False")
        self.shows(accepts_closed(NO_TREES, 1, ((0, 1), (every,), tuple(itertools.product(range(2), repeat=3)))),
                   "False")

    def test_the_layers_need_not_be_ascending_among_each_other(self):
        """A later layer can come before an earlier one, and equal ones can follow one another."""
        layers = (((0, 0), (1, 1)), ((0, 0), (1, 0), (1, 1)), ((0, 0),), ((0, 0),))
        for order in itertools.permutations(range(4)):
            value = ((0,), tuple([layers[at] for at in order]), ((0, 0, 0), (1, 0, 0), (1, 1, 1)))
            self.same(accepts_closed(APART, 4, value), is_plain_seal(APART, 4, value))
        self.shows(accepts_closed(APART, 3, ((0,), (((0, 0),), ((0, 0), (1, 1)), ((0, 0), (1, 0), (1, 1))),
                                             ((0, 0, 0), (1, 0, 0), (1, 1, 1)))), "True")
        self.shows(accepts_closed(APART, 2, ((0,), (((0, 0),), ((1, 0), (0, 0))), ((0, 0, 0), (1, 0, 0)))), "False")
        self.shows(accepts_closed(APART, 2, ((0,), (((0, 0),), ((0, 0), (0, 0))), ((0, 0, 0),))), "False")

    def test_nothing_is_accepted_if_the_good_trees_are_not_closed(self):
        """Points 1 and 68: the evidence of a greater depth, of another automaton, and with what is missing."""
        for automaton, depth in [(SWAP, 1), (PARITY, 12), (CHAINS, 3)]:
            self.shows((closed_evidence(automaton, depth), closed_at(automaton, depth)), "(None, False)")
            layers = [pairs_at(automaton, less) for less in range(depth)]
            triples = met_with(automaton, layers[-1])
            layers = tuple([tuple(sorted(one)) for one in layers])
            states = reached_by_trees(automaton)
            self.shows(accepts_closed(automaton, depth, (states, layers, tuple(sorted(triples)))), "False")
            right = tuple(sorted([one for one in triples if not is_wrong_triple(automaton, one)]))
            self.shows(accepts_closed(automaton, depth, (states, layers, right)), "False")
            self.shows(accepts_closed(automaton, depth, ((), ((),) * depth, ())), "False")
            self.shows(accepts_closed(automaton, depth, (states, ((),) * depth, ())), "False")
            self.shows(accepts_closed(automaton, depth, (states, layers[:-1] + ((),), ())), "False")
        self.shows(accepts_closed(SWAP, 1, closed_evidence(SWAP, 2)), "False")

    def test_what_is_no_evidence(self):
        own = closed_evidence(APART, 2)
        for value in [None, True, 0, "", [], (), list(own), own[:2], own + ((),), (list(own[0]),) + own[1:],
                      ((False,),) + own[1:], (own[0], own[1], None), (own[0], list(own[1]), own[2]),
                      (own[0], own[1][:1], own[2]), (own[0], own[1] + own[1][:1], own[2]),
                      (own[0], own[1], list(own[2])), (own[0], own[1], ((0, 0, False),)),
                      (own[0], own[1], ((0, 0, 0), (2, 2, 2))), (own[0], own[1], ((-1, -1, -1), (0, 0, 0))),
                      (own[0], own[1], ((0, 0),)), (own[0], (((0, 0, 0),), ((0, 0),)), own[2]),
                      (own[0], (((False, 0),), ((0, 0),)), own[2]), (own[0], (((0, 0),), ((0, 0), (2, 2))), own[2]),
                      (own[0], (((0, 0),), [(0, 0)]), own[2]), (own[0], (((0, 0),), ([0, 0],)), own[2]),
                      DEEP, DEEP_LIST, (DEEP,) + own[1:], (own[0], DEEP, own[2]), own[:2] + (DEEP,),
                      own[:2] + (DEEP_LIST,), (own[0], (DEEP, ((0, 0),)), own[2]), own[:2] + ((DEEP,),),
                      own[:2] + (((0, 0, DEEP),),), ((0,) * 100000,) + own[1:], own[:2] + (((0, 0, 0),) * 100000,),
                      (own[0], (((0, 0),) * 100000, ((0, 0),)), own[2]), (own[0], (((0, 0),),) * 100000, own[2])]:
            self.shows(accepts_closed(APART, 2, value), "False")
        self.shows(accepts_closed(APART, 2, own), "True")


class WrongArguments(Case):
    def test_each_is_refused_by_its_name_and_the_first_of_several(self):
        """Points 8 and 69."""
        wrongs = [("automaton", helpers.WRONG_AUTOMATA), ("depth", helpers.wrong_integers(1, 12))]
        self.refuses_in_order(closed_evidence, (MIXED, 1), wrongs)
        self.refuses_in_order(accepts_closed, (MIXED, 12, ()), wrongs)

    def test_arguments_ahead_of_any_value(self):
        self.bad("automaton", accepts_closed, None, None, None)
        self.bad("depth", accepts_closed, SWAP, 13, DEEP)

    def test_arguments_stay_and_equal_calls_return_equal_results(self):
        value = [[0], [[[0, 0]]], [[0, 0, 0]]]
        for _ in range(2):
            self.shows(accepts_closed(APART, 1, value), "False")
            self.shows(closed_evidence(APART, 1), "((0,), (((0, 0),),), ((0, 0, 0),))")
        self.assertEqual(value, [[0], [[[0, 0]]], [[0, 0, 0]]])


if __name__ == "__main__":
    unittest.main()
