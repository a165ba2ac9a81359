"""Journals and records: points 128 and 131 to 134, and rootfirst/journals.py."""

import random
import unittest

from rootfirst.errors import NotPossible
from rootfirst.garden import Garden
from rootfirst.journals import are_right, replayed
from tests import helpers
from tests.helpers import (
    DEEP, DEEP_LIST, RIGHT_COMMANDS, SWAP, WRONG_COMMANDS, Case, PlainGarden, all_trees, changed, is_plain_command,
    is_whole, looking_automata, many_automata, nested_tree, random_command,
)

MIXED = ((0, 1, 2), (True, False), (0, (1, 0), ((0, 1), (1, 0))))
NO_TREES = ((1, 2), (True, False), ((1, 0), ((0, 1), (1, 0))))
PAIR = (2, (0,), (1,))
RECORDS = ((("put", (1, (0,))), (1,)), (("put", (0,)), (1, 0)), (("swap", 0, (0,), 1, ()), (1, 0)),
           (("step", 1, (0,), 0), (0, 0)), (("good", 0, False), (0, 0)), (("take", 0), (0,)))


def judged(automaton, value):
    """Point 131, word by word."""
    if type(value) is not tuple or len(value) > 20:
        return False
    plain = PlainGarden(automaton)
    for record in value:
        if type(record) is not tuple or len(record) != 2 or not is_plain_command(automaton, record[0]):
            return False
        if plain.refusal(record[0]) is not None:
            return False
        plain.journal.append(record[0])
        if type(record[1]) is not tuple or not all(is_whole(one) for one in record[1]):
            return False
        if record[1] != plain.states():
            return False
    return True


def told_of(garden):
    return (garden.automaton(), garden.trees(), garden.journal(), garden.states(), garden.good(), garden.records(),
            garden.let_in(1), garden.let_in(2))


def grown(chance, automaton, many=20):
    """A garden behind some commands."""
    garden, trees = Garden(automaton), all_trees(automaton[0], 5)[-40:]
    for _ in range(many):
        try:
            garden.act(random_command(chance, automaton, garden.trees(), trees))
        except NotPossible:
            continue
    return garden


class Examples(Case):
    def test_the_interface(self):
        garden = Garden(SWAP)
        for command in [("put", PAIR), ("put", (2, (1,), (0,))), ("swap", 0, (0,), 1, (0,)), ("good", 3, True),
                        ("step", 2, (0, 0), 2)]:
            garden.act(command)
        self.shows((are_right(SWAP, garden.records()), garden.undo(), garden.states(),
                    replayed(SWAP, garden.journal()).trees() == garden.trees()),
                   "(True, ('step', 2, (0, 0), 2), (3, 3), True)")


class Replayed(Case):
    def test_it_tells_the_same(self):
        """Point 128."""
        chance = random.Random(993)
        for automaton in many_automata(994, 2) + looking_automata(995, 1)[:40]:
            garden = grown(chance, automaton)
            again = replayed(automaton, garden.journal())
            self.assertIsInstance(again, Garden)
            before = told_of(garden)
            self.same(told_of(again), before)
            # And what is done to the one does not change the other.
            while again.undo() is not None:
                pass
            self.same(told_of(garden), before)
            self.same((again.automaton(), again.trees(), again.states()), (automaton, (), ()))

    def test_it_can_go_on_and_be_undone(self):
        garden = replayed(MIXED, (("put", (0,)), ("good", 1, True)))
        self.shows((garden.act(("put", (1, (0,)))), garden.good(), garden.undo(), garden.undo(), garden.undo()),
                   "(3, (0, 1), ('put', (1, (0,))), ('good', 1, True), ('put', (0,)))")
        self.shows((garden.undo(), garden.automaton() == MIXED), "(None, True)")

    def test_journals_of_0_20_and_21_commands(self):
        self.shows((replayed(MIXED, ()).journal(), replayed(NO_TREES, ()).trees()), "((), ())")
        for many in (1, 12, 20):
            journal = (("good", 0, True), ("good", 0, False)) * 10
            garden = replayed(MIXED, journal[:many])
            self.same((len(garden.journal()), garden.automaton()[1][0]), (many, many % 2 == 1))
        self.too_large("commands", replayed(MIXED, journal).act, ("put", (0,)))
        self.bad("journal", replayed, MIXED, journal + journal[:1])
        self.bad("journal", replayed, MIXED, journal * 5000)

    def test_commands_that_are_not_possible(self):
        """The first one of them is told, but ahead of it any wrong form."""
        put = ("put", nested_tree(14))
        self.not_possible("missing", replayed, MIXED, (("take", 0),))
        self.not_possible("many", replayed, MIXED, (put,) * 13)
        self.not_possible("overlap", replayed, MIXED, (put, ("swap", 0, (), 0, (0,)), ("take", 1)))
        self.not_possible("place", replayed, MIXED, (put, ("swap", 0, (), 0, (1,)), ("take", 1)))
        self.not_possible("great", replayed, MIXED, (put, put, ("swap", 0, (), 1, (0,)), ("take", 2)))
        self.not_possible("missing", replayed, MIXED, (put, ("take", 0), ("take", 0), ("swap", 0, (), 0, ())))
        self.bad("journal", replayed, MIXED, (("take", 0), ("take", 12)))
        self.bad("journal", replayed, MIXED, (put,) * 20 + (("take", 0),))

    def test_arguments_are_copied(self):
        journal = [("put", (0,))]
        self.bad("journal", replayed, MIXED, journal)
        garden = replayed(MIXED, tuple(journal))
        journal.clear()
        self.shows(garden.journal(), "(('put', (0,)),)")


class Records(Case):
    def test_those_of_a_garden_are_right(self):
        """Points 131 and 132: and no others with these commands are."""
        chance = random.Random(996)
        other_states = 0
        for automaton in many_automata(997, 2):
            garden = grown(chance, automaton)
            records = garden.records()
            self.same(tuple([command for command, _ in records]), garden.journal())
            self.shows((are_right(automaton, records), judged(automaton, records)), "(True, True)")
            for at in range(len(records)):
                self.shows(are_right(automaton, records[:at]), "True")
                command, states = records[at]
                for number, one in enumerate(states):
                    for new in range(len(automaton[1])):
                        told = states[:number] + (new,) + states[number + 1:]
                        value = records[:at] + ((command, told),) + records[at + 1:]
                        self.same(are_right(automaton, value), new == one)
                        other_states += new != one
                for told in (states + (0,), states[:-1] if states else (0,), None, list(states)):
                    self.shows(are_right(automaton, records[:at] + ((command, told),)), "False")
        self.assertGreater(other_states, 1000)

    def test_records_left_out_put_in_or_out_of_order(self):
        chance = random.Random(998)
        kinds = {True: 0, False: 0}
        for automaton in many_automata(999, 1):
            records = grown(chance, automaton, 10).records()
            for at in range(len(records)):
                for value in [records[:at] + records[at + 1:], records[:at + 1] + records[at:],
                              records[:at] + records[at:at + 2][::-1] + records[at + 2:],
                              records[:at] + ((("good", 0, True), records[at][1]),) + records[at:]]:
                    right = are_right(automaton, value)
                    self.same(right, judged(automaton, value))
                    kinds[right] += 1
        self.assertGreater(min(kinds.values()), 100)

    def test_records_of_0_20_and_21_commands(self):
        self.shows((are_right(MIXED, ()), are_right(NO_TREES, ())), "(True, True)")
        record = (("good", 0, True), ())
        self.shows([are_right(MIXED, (record,) * many) for many in (1, 19, 20, 21, 22)],
                   "[True, True, True, False, False]")
        self.shows(are_right(MIXED, (record,) * 50000), "False")

    def test_commands_that_are_not_possible(self):
        put = (("put", (0,)), (0,))
        for command, states in [(("take", 1), (0,)), (("take", 11), ()), (("swap", 0, (), 0, ()), (0,)),
                                (("swap", 0, (), 1, ()), (0,)), (("swap", 0, (0,), 0, ()), (0,))]:
            self.shows(are_right(MIXED, (put, (command, states))), "False")
        full = tuple([(("put", (0,)), (0,) * many) for many in range(1, 14)])
        self.shows((are_right(MIXED, full[:12]), are_right(MIXED, full)), "(True, False)")
        great = ((("put", nested_tree(14)), (0,)), (("put", (1, (0,))), (0, 1)))
        self.shows((are_right(MIXED, great), are_right(MIXED, great + ((("swap", 0, (0,) * 14, 1, ()), (1, 0)),))),
                   "(True, False)")

    def test_one_thing_changed(self):
        for value in (RECORDS, RECORDS[:1], ((("good", 1, True), ()),)):
            self.shows(are_right(MIXED, value), "True")
            for at, other in enumerate([value] + changed(value)):
                with self.subTest(at=at):
                    self.same(are_right(MIXED, other), judged(MIXED, other))

    def test_what_is_no_record(self):
        put = (("put", (0,)), (0,))
        for value in [None, True, 0, "", [], put, [put], (list(put),), (put + ((),),), (put[:1],), ((),), (None,),
                      ((put[0], [0]),), ((put[0], (False,)),), ((put[0], (None,)),), ((put[0], 0),), ((put[0], None),),
                      ((put[0], (0, 0)),), ((put[0], ()),), ((put[0], (1,)),), ((None, (0,)),), (((), ()),),
                      ((put[0], DEEP),), ((put[0], (DEEP,)),), ((DEEP, (0,)),), ((DEEP_LIST, (0,)),),
                      ((put[0], DEEP_LIST),), DEEP, DEEP_LIST, (DEEP,), ((put[0], (0,) * 100000),)]:
            self.shows(are_right(MIXED, value), "False")
        self.shows(are_right(MIXED, (put,)), "True")
        one = ((("put", (1, (0,))), (1,)),)
        self.shows((are_right(MIXED, one), are_right(MIXED, ((one[0][0], (True,)),))), "(True, False)")
        for command in WRONG_COMMANDS:
            self.shows(are_right(MIXED, ((command, ()),)), "False")


class WrongArguments(Case):
    JOURNALS = [None, True, 0, "", [], [("put", (0,))], ("put", (0,)), ((),), (None,), (("put", (0,)), None),
                (("good", 0, True),) * 21, DEEP, DEEP_LIST, (DEEP,)]

    def test_each_is_refused_by_its_name_and_the_first_of_several(self):
        """Points 8 and 134."""
        journals = self.JOURNALS + [(command,) for command in WRONG_COMMANDS]
        journals += [(("put", (0,)), command) for command in WRONG_COMMANDS]
        self.refuses_in_order(replayed, (MIXED, ()), [("automaton", helpers.WRONG_AUTOMATA), ("journal", journals)])
        self.refuses_in_order(are_right, (MIXED, None), [("automaton", helpers.WRONG_AUTOMATA)])
        self.bad("automaton", are_right, ((0, 1), (True,) * 5, (0, (0,) * 5)), ())

    def test_right_forms(self):
        for command in RIGHT_COMMANDS:
            word = PlainGarden(MIXED).refusal(command)
            if word is None:
                self.same(replayed(MIXED, (command,)).journal(), (command,))
            else:
                self.not_possible(word, replayed, MIXED, (command,))

    def test_arguments_stay_and_equal_calls_return_equal_results(self):
        value = [[["put", [0]], [0]]]
        for _ in range(2):
            self.shows(are_right(MIXED, value), "False")
            self.shows(are_right(MIXED, RECORDS), "True")
            self.same(replayed(MIXED, tuple([command for command, _ in RECORDS])).records(), RECORDS)
        self.assertEqual(value, [[["put", [0]], [0]]])


if __name__ == "__main__":
    unittest.main()
