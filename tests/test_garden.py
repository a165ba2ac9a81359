"""A garden: points 125 to 135, and rootfirst/garden.py."""

import random
import unittest

from rootfirst.errors import NotPossible, TooLarge
from rootfirst.exchange import is_closed
from rootfirst.garden import Garden
from rootfirst.journals import replayed
from tests import helpers
from tests.helpers import (
    LOOKS, MANY_ARITIES, RIGHT_COMMANDS, SWAP, WRONG_COMMANDS, Case, PlainGarden, alike_along, all_places, all_trees,
    at_place, changed, exchanged, good, is_plain_command, is_plainly_let_in, looking_automata, many_automata,
    nested_tree, nodes, perfect_tree, random_command, state,
)

MIXED = ((0, 1, 2), (True, False), (0, (1, 0), ((0, 1), (1, 0))))
NO_TREES = ((1, 2), (True, False), ((1, 0), ((0, 1), (1, 0))))
PAIR, TURNED = (2, (0,), (1,)), (2, (1,), (0,))


def told_of(garden):
    return (garden.automaton(), garden.trees(), garden.journal(), garden.states(), garden.good(), garden.records(),
            [garden.let_in(depth) for depth in (1, 2, 12)])


def plainly_told_of(plain):
    automaton, states, trees = plain.automaton(), plain.states(), plain.now()[3]
    return (automaton, tuple(trees), tuple(plain.journal), states,
            tuple([at for at, one in enumerate(states) if automaton[1][one]]), plain.records(),
            [tuple([at for at, tree in enumerate(trees) if is_plainly_let_in(automaton, depth, tree)])
             for depth in (1, 2, 12)])


def planted(automaton, *trees):
    garden = Garden(automaton)
    for tree in trees:
        garden.act(("put", tree))
    return garden


class Examples(Case):
    def test_the_interface_and_point_135(self):
        garden = Garden(SWAP)
        self.shows((garden.act(("put", PAIR)), garden.act(("put", TURNED)), garden.states(), garden.good()),
                   "(1, 2, (2, 2), (0, 1))")
        self.shows((garden.act(("swap", 0, (0,), 1, (0,))), garden.trees(), garden.states(), garden.good(),
                    garden.let_in(1), garden.let_in(2)),
                   "(3, ((2, (1,), (1,)), (2, (0,), (0,))), (3, 3), (), (0, 1), ())")
        self.shows((garden.act(("good", 3, True)), garden.good(), garden.act(("step", 2, (0, 0), 2)), garden.states(),
                    garden.automaton()[1]), "(4, (0, 1), 5, (3, 2), (False, False, True, True))")
        self.shows((garden.undo(), garden.states(), replayed(SWAP, garden.journal()).trees() == garden.trees()),
                   "(('step', 2, (0, 0), 2), (3, 3), True)")


class Commands(Case):
    def test_a_new_garden(self):
        """Point 125: 0 trees, and automata of all kinds, also those without trees."""
        for automaton in many_automata(981, 1):
            garden = Garden(automaton)
            self.same(told_of(garden), (automaton, (), (), (), (), (), [(), (), ()]))
            self.shows((garden.undo(), garden.twin().journal()), "(None, ())")

    def test_against_a_plain_telling(self):
        """Points 126 to 128 and 132: any commands, undone now and then."""
        chance = random.Random(982)
        kinds = dict.fromkeys(["many", "missing", "place", "overlap", "great", "commands", None], 0)
        undone = 0
        for automaton in many_automata(983, 3):
            garden, plain = Garden(automaton), PlainGarden(automaton)
            trees = [tree for tree in all_trees(automaton[0], 7) if nodes(tree) > 2][-60:] + all_trees(automaton[0], 3)
            for _ in range(35):
                if chance.random() < 0.12:
                    self.same(garden.undo(), plain.journal.pop() if plain.journal else None)
                    undone += 1
                    continue
                command = random_command(chance, automaton, plain.now()[3], trees)
                word = plain.refusal(command)
                kinds[word] += 1
                if word is None:
                    plain.journal.append(command)
                    self.same(garden.act(command), len(plain.journal))
                elif word == "commands":
                    self.too_large(word, garden.act, command)
                else:
                    self.not_possible(word, garden.act, command)
                if chance.random() < 0.1:
                    self.same(told_of(garden), plainly_told_of(plain))
            self.same(told_of(garden), plainly_told_of(plain))
        self.assertGreater(min(kinds[kind] for kind in kinds if kind not in ("many", "great")), 20)
        self.assertGreater(kinds["great"], 3)
        self.assertGreater(undone, 200)

    def test_steps(self):
        garden = planted(MIXED, (0,), (1, (0,)), (2, (0,), (1, (0,))))
        self.shows(garden.states(), "(0, 1, 1)")
        self.shows((garden.act(("step", 0, (), 1)), garden.states()), "(4, (1, 0, 1))")
        self.shows((garden.act(("step", 1, (1,), 1)), garden.states()), "(5, (1, 1, 0))")
        self.shows((garden.act(("step", 2, (1, 1), 1)), garden.states()), "(6, (1, 1, 1))")
        self.shows((garden.act(("step", 2, (0, 1), 0)), garden.states(), garden.automaton()),
                   "(7, (1, 1, 1), ((0, 1, 2), (True, False), (1, (1, 1), ((0, 0), (1, 1)))))")

    def test_good_states(self):
        garden = planted(MIXED, (0,), (1, (0,)))
        self.shows((garden.good(), garden.act(("good", 1, True)), garden.good()), "((0,), 3, (0, 1))")
        self.shows((garden.act(("good", 0, False)), garden.good(), garden.act(("good", 1, False)), garden.good()),
                   "(4, (1,), 5, ())")
        # A command that leaves all as it is stands in the journal, too.
        self.shows((garden.act(("good", 1, False)), len(garden.journal())), "(6, 6)")

    def test_0_12_and_13_trees(self):
        garden = Garden(MIXED)
        for many in range(12):
            self.assertEqual(len(garden.trees()), many)
            garden.act(("put", nested_tree(many)))
        self.same(garden.trees(), tuple([nested_tree(many) for many in range(12)]))
        before = told_of(garden)
        self.not_possible("many", garden.act, ("put", (0,)))
        self.same(told_of(garden), before)
        garden.act(("swap", 11, (0,), 0, ()))
        garden.act(("take", 11))
        self.same(garden.trees()[0], nested_tree(10))
        self.not_possible("missing", garden.act, ("take", 11))
        garden.act(("take", 0))
        self.same(garden.trees(), tuple([nested_tree(many) for many in range(1, 11)]))
        garden.act(("put", (0,)))
        self.same(garden.trees()[-1], (0,))

    def test_the_numbers_0_and_11_and_12(self):
        garden = planted(MIXED, (0,))
        for number in (1, 11):
            self.not_possible("missing", garden.act, ("take", number))
            self.not_possible("missing", garden.act, ("swap", 0, (), number, ()))
            self.not_possible("missing", garden.act, ("swap", number, (), 0, ()))
        for number in (12, -1, 10 ** 20):
            self.bad("command", garden.act, ("take", number))
            self.bad("command", garden.act, ("swap", 0, (), number, ()))
        self.shows((garden.act(("take", 0)), garden.trees()), "(2, ())")
        self.not_possible("missing", garden.act, ("take", 0))
        self.not_possible("missing", garden.act, ("swap", 0, (), 0, ()))

    def test_20_and_21_commands(self):
        garden = Garden(MIXED)
        for many in range(20):
            self.same(garden.act(("good", many % 2, many % 3 == 0)), many + 1)
        before = told_of(garden)
        for command in (("good", 0, True), ("put", (0,)), ("step", 0, (), 0)):
            self.too_large("commands", garden.act, command)
            self.same(told_of(garden), before)
        # What is not possible, or no command, is told ahead of it.
        self.not_possible("missing", garden.act, ("take", 0))
        self.bad("command", garden.act, ("take", 12))
        garden.undo()
        self.shows((garden.act(("put", (0,))), garden.trees()), "(20, ((0,),))")
        self.not_possible("overlap", garden.act, ("swap", 0, (), 0, ()))
        self.too_large("commands", garden.act, ("take", 0))
        self.assertEqual(len(garden.journal()), 20)


class Swaps(Case):
    def test_parts_of_one_tree(self):
        tree = (2, (2, (0,), (1, (0,))), (1, (2, (0,), (0,))))
        garden = planted(MIXED, tree)
        for place, later in [((0,), (1,)), ((0, 1), (1, 0)), ((0, 0), (1, 0, 1)), ((0, 0), (0, 1)), ((1,), (0, 1, 0))]:
            for one, other in [(place, later), (later, place)]:
                wanted = exchanged(exchanged(tree, one, at_place(tree, other)), other, at_place(tree, one))
                garden.act(("swap", 0, one, 0, other))
                self.same(garden.trees(), (wanted,))
                garden.undo()
                self.same(garden.trees(), (tree,))

    def test_a_part_with_itself_or_with_a_part_in_it(self):
        tree = (2, (2, (0,), (1, (0,))), (1, (2, (0,), (0,))))
        garden = planted(MIXED, (0,), tree)
        for place in all_places(tree):
            for later in all_places(tree):
                if place[:len(later)] == later or later[:len(place)] == place:
                    self.not_possible("overlap", garden.act, ("swap", 1, place, 1, later))
                else:
                    garden.act(("swap", 1, place, 1, later))
                    garden.undo()
        self.same(garden.trees(), ((0,), tree))
        # In another tree the same place is no overlap.
        self.shows((garden.act(("swap", 0, (), 1, ())), garden.trees()[1]), "(3, (0,))")

    def test_the_order_of_words(self):
        """Point 126: missing, place, overlap, great."""
        garden = planted(MIXED, nested_tree(14), (2, (0,), (0,)))
        self.not_possible("missing", garden.act, ("swap", 0, (1,), 2, ()))
        self.not_possible("missing", garden.act, ("swap", 2, (), 0, (1,)))
        self.not_possible("missing", garden.act, ("swap", 5, (), 5, ()))
        self.not_possible("place", garden.act, ("swap", 0, (1,), 1, (0,)))
        self.not_possible("place", garden.act, ("swap", 0, (), 1, (0, 0)))
        self.not_possible("place", garden.act, ("swap", 1, (0, 0), 1, (0, 0)))
        self.not_possible("place", garden.act, ("swap", 1, (), 1, (0, 0)))
        self.not_possible("place", garden.act, ("swap", 1, (0, 1), 1, (0,)))
        self.not_possible("overlap", garden.act, ("swap", 1, (0,), 1, (0,)))
        self.not_possible("great", garden.act, ("swap", 0, (), 1, (0,)))
        self.shows(len(garden.journal()), "2")

    def test_trees_of_15_and_16_nodes(self):
        one, pair = (0,), (1, (0,))
        garden = planted(MIXED, nested_tree(13), pair)
        garden.act(("swap", 0, (0,) * 13, 1, ()))
        self.same(garden.trees(), (nested_tree(14), one))
        garden.act(("swap", 0, (0,) * 12, 1, ()))
        self.same(garden.trees(), (nested_tree(12), nested_tree(2)))
        for number, trees in [(0, (nested_tree(14), pair)), (1, (pair, nested_tree(14)))]:
            garden = planted(MIXED, *trees)
            for command in [("swap", number, (0,) * 14, 1 - number, ()), ("swap", 1 - number, (), number, (0,) * 14)]:
                self.not_possible("great", garden.act, command)
                self.same((garden.trees(), len(garden.journal())), (trees, 2))
            garden.act(("swap", number, (0,) * 13, 1 - number, ()))
            self.same(garden.trees(), trees)
        full = perfect_tree(4)
        garden = planted(MIXED, full, full)
        self.not_possible("great", garden.act, ("swap", 0, (0, 0), 1, (0,)))
        self.not_possible("great", garden.act, ("swap", 0, (0,), 1, (0, 0)))
        garden.act(("swap", 0, (0, 0), 0, (1,)))
        self.same(garden.trees(), ((2, (2, full[2], full[1][2]), full[1][1]), full))

    def test_parts_with_the_same_state(self):
        """Point 129."""
        chance = random.Random(984)
        swapped = 0
        for automaton in [one for one in many_automata(985, 2) if 0 in one[0]]:
            trees = [chance.choice(all_trees(automaton[0], 6)) for _ in range(2)]
            garden = planted(automaton, *trees)
            before = garden.states()
            for place in all_places(trees[0]):
                for later in all_places(trees[1]):
                    one, other = at_place(trees[0], place), at_place(trees[1], later)
                    if state(automaton, one) == state(automaton, other):
                        garden.act(("swap", 0, place, 1, later))
                        self.same(garden.states(), before)
                        garden.undo()
                        swapped += one != other
        self.assertGreater(swapped, 300)

    def test_good_trees_that_look_alike(self):
        """Point 129: if the good trees are closed at a depth, a swap below equal levels leaves both good."""
        swapped = 0
        for automaton in looking_automata(986, 1):
            trees = [tree for tree in all_trees(automaton[0], 6) if good(automaton, tree)][-8:]
            for depth in [depth for depth in (1, 2, 3) if trees and is_closed(automaton, depth)]:
                garden = planted(automaton, *trees)
                for number, tree in enumerate(trees):
                    for other in range(number):
                        for place in all_places(tree):
                            if at_place(trees[other], place) and alike_along(tree, trees[other], place, depth):
                                garden.act(("swap", number, place, other, place))
                                self.same(garden.good(), tuple(range(len(trees))))
                                swapped += at_place(tree, place) != at_place(trees[other], place) and place != ()
                                garden.undo()
        self.assertGreater(swapped, 100)
        self.assertEqual(LOOKS[2][1], SWAP)

    def test_twice_the_same_swap_changes_nothing(self):
        """Point 130."""
        chance = random.Random(987)
        swapped = 0
        for arities in [one for one in MANY_ARITIES if 0 in one]:
            automaton = helpers.random_automaton(chance, arities, 3)
            trees = [chance.choice(all_trees(arities, 6)) for _ in range(3)]
            garden = planted(automaton, *trees)
            for _ in range(60):
                command = random_command(chance, automaton, trees, [])
                if command[0] == "swap":
                    try:
                        garden.act(command)
                    except NotPossible:
                        continue
                    garden.act(command)
                    self.same((garden.trees(), len(garden.journal())), (tuple(trees), 5))
                    garden.undo()
                    garden.undo()
                    swapped += 1
        self.assertGreater(swapped, 100)


class Undoing(Case):
    def test_all_is_as_it_was_before(self):
        """Point 128."""
        chance = random.Random(988)
        for automaton in many_automata(989, 1):
            garden, trees, before = Garden(automaton), all_trees(automaton[0], 5)[-30:], []
            for _ in range(25):
                now = told_of(garden)
                try:
                    garden.act(random_command(chance, automaton, garden.trees(), trees))
                except (NotPossible, TooLarge):
                    self.same(told_of(garden), now)
                    continue
                before.append(now)
            for now in reversed(before):
                last = garden.journal()[-1]
                self.same(garden.undo(), last)
                self.same(told_of(garden), now)
            self.shows(garden.undo(), "None")

    def test_nothing_to_undo(self):
        garden = Garden(MIXED)
        self.shows((garden.undo(), garden.undo()), "(None, None)")
        garden.act(("put", (0,)))
        self.shows((garden.undo(), garden.undo(), garden.trees(), garden.journal()), "(('put', (0,)), None, (), ())")

    def test_what_was_refused_is_not_undone(self):
        garden = planted(MIXED, (0,))
        self.not_possible("missing", garden.act, ("take", 3))
        self.bad("command", garden.act, ("take", 30))
        self.shows((garden.undo(), garden.trees()), "(('put', (0,)), ())")


class Answers(Case):
    def test_let_in(self):
        """Chapter 9, for the present automaton."""
        found = 0
        for automaton in looking_automata(990, 1):
            trees = all_trees(automaton[0], 5)[-6:] + all_trees(automaton[0], 3)[:6]
            garden = planted(automaton, *trees)
            for depth in (1, 2, 3, 12):
                told = garden.let_in(depth)
                self.same(told, tuple([at for at, tree in enumerate(trees)
                                       if is_plainly_let_in(automaton, depth, tree)]))
                self.assertTrue(set(garden.good()) <= set(told))
                found += len(told) > len(garden.good())
        self.assertGreater(found, 20)
        garden = planted(SWAP, (2, (0,), (0,)))
        self.shows((garden.let_in(1), garden.act(("step", 2, (1, 0), 3)), garden.let_in(1)), "((0,), 2, ())")

    def test_depths(self):
        for garden in (Garden(MIXED), planted(MIXED, (0,)), Garden(NO_TREES)):
            for depth in helpers.wrong_integers(1, 12):
                self.bad("depth", garden.let_in, depth)
            self.assertEqual(garden.let_in(1), garden.let_in(12))

    def test_twins(self):
        """Point 133."""
        chance = random.Random(991)
        for automaton in many_automata(992, 1):
            garden, trees = Garden(automaton), all_trees(automaton[0], 5)[-30:]
            for _ in range(12):
                try:
                    garden.act(random_command(chance, automaton, garden.trees(), trees))
                except NotPossible:
                    pass
            twin = garden.twin()
            self.assertIsInstance(twin, Garden)
            before = told_of(garden)
            self.same(told_of(twin), before)
            twin.act(("good", 0, True))
            twin.undo()
            self.same(twin.undo(), garden.journal()[-1] if garden.journal() else None)
            self.same(told_of(garden), before)
            other = garden.twin()
            while garden.undo() is not None:
                pass
            self.same(told_of(other), before)
            self.same((garden.automaton(), garden.trees()), (automaton, ()))

    def test_gardens_know_nothing_of_one_another(self):
        one, other = Garden(SWAP), Garden(SWAP)
        one.act(("put", PAIR))
        one.act(("good", 2, False))
        self.same(told_of(other), (SWAP, (), (), (), (), (), [(), (), ()]))
        other.act(("put", TURNED))
        self.shows((one.trees(), one.good(), other.good()), "(((2, (0,), (1,)),), (), (0,))")

    def test_the_first_automaton_stays(self):
        garden = planted(MIXED, (1, (0,)))
        garden.act(("step", 0, (), 1))
        self.shows((MIXED[2][0], garden.automaton()[2][0], garden.twin().automaton()[2][0]), "(0, 1, 1)")

    def test_tuples(self):
        garden = planted(SWAP, PAIR, TURNED)
        for told in (garden.trees(), garden.journal(), garden.states(), garden.good(), garden.let_in(1),
                     garden.records(), garden.records()[0], garden.automaton(), garden.undo()):
            self.assertIs(type(told), tuple)
        self.shows(planted(SWAP, PAIR, TURNED).records(),
                   "((('put', (2, (0,), (1,))), (2,)), (('put', (2, (1,), (0,))), (2, 2)))")


class WrongArguments(Case):
    def test_automata(self):
        """Point 134."""
        for automaton in helpers.WRONG_AUTOMATA + [((0, 1), (True,) * 5, (0, (0,) * 5))]:
            self.bad("automaton", Garden, automaton)
        self.shows(Garden(NO_TREES).trees(), "()")

    def test_commands(self):
        garden = planted(MIXED, (0,))
        before = told_of(garden)
        for command in WRONG_COMMANDS:
            self.assertFalse(is_plain_command(MIXED, command))
            self.bad("command", garden.act, command)
            self.same(told_of(garden), before)
        self.bad("command", Garden(NO_TREES).act, ("put", (0,)))

    def test_one_thing_changed(self):
        for command in RIGHT_COMMANDS:
            self.assertTrue(is_plain_command(MIXED, command))
            for at, other in enumerate([command] + changed(command)):
                with self.subTest(command=command, at=at):
                    garden = Garden(MIXED)
                    if not is_plain_command(MIXED, other):
                        self.bad("command", garden.act, other)
                        continue
                    word = PlainGarden(MIXED).refusal(other)
                    if word is None:
                        self.shows(garden.act(other), "1")
                    else:
                        self.not_possible(word, garden.act, other)

    def test_commands_for_the_present_automaton(self):
        """Its arities and the number of its states stay."""
        garden = Garden(SWAP)
        for command in (("step", 0, (), 3), ("step", 2, (3, 3), 0), ("good", 3, True)):
            garden.act(command)
        for command in (("step", 0, (), 4), ("step", 2, (4, 0), 0), ("good", 4, True), ("step", 3, (), 0),
                        ("put", (3,)), ("put", (0, (0,)))):
            self.bad("command", garden.act, command)
        self.shows(len(garden.journal()), "3")

    def test_arguments_stay_and_equal_calls_return_equal_results(self):
        garden, command = planted(MIXED, (0,)), ["put", [0]]
        for _ in range(2):
            self.bad("command", garden.act, command)
            self.shows((garden.trees(), garden.good(), garden.journal()), "(((0,),), (0,), (('put', (0,)),))")
        self.assertEqual(command, ["put", [0]])


if __name__ == "__main__":
    unittest.main()
