"""What several tests need: a test case with the errors of the program, wrong values,
and a slow and plain telling of trees and automata that shares nothing with the program."""

import itertools
import random
import unittest

from rootfirst.errors import BadValue, NotPossible, TooLarge


class Case(unittest.TestCase):
    def shows(self, got, text):
        """The value is shown by exactly this text, so that True is not 1, and a list no tuple."""
        self.assertEqual(repr(got), text)

    def same(self, got, wanted):
        self.assertEqual(repr(got), repr(wanted))

    def bad(self, name, function, *arguments):
        with self.assertRaises(BadValue) as caught:
            function(*arguments)
        self.assertEqual(caught.exception.name, name)

    def not_possible(self, why, function, *arguments):
        with self.assertRaises(NotPossible) as caught:
            function(*arguments)
        self.assertEqual(caught.exception.why, why)

    def too_large(self, what, function, *arguments):
        with self.assertRaises(TooLarge) as caught:
            function(*arguments)
        self.assertEqual(caught.exception.what, what)

    def refuses_in_order(self, function, rights, wrongs):
        """Each wrong value is refused by the name of its parameter, and of several wrong
        ones the first is named. `wrongs` has a pair of a name and a list of wrong
        values for each parameter that is checked, in the order of the parameters."""
        many = len(wrongs)
        for at in range(many):
            name, values = wrongs[at]
            for number, value in enumerate(values):
                with self.subTest(function=function.__name__, name=name, number=number):
                    arguments = list(rights)
                    arguments[at] = value
                    self.bad(name, function, *arguments)
        for chosen in itertools.product((False, True), repeat=many):
            if any(chosen):
                arguments = list(rights)
                for at in range(many):
                    if chosen[at]:
                        arguments[at] = wrongs[at][1][0]
                self.bad(wrongs[chosen.index(True)][0], function, *arguments)


def nested(many, value=()):
    """A value nested so deep in tuples."""
    for _ in range(many):
        value = (value,)
    return value


def nested_list(many):
    value = []
    for _ in range(many):
        value = [value]
    return value


def nested_tree(many):
    """A tree of so many nodes and the leaf 0, each with the symbol 1 and one child."""
    value = (0,)
    for _ in range(many):
        value = (1, value)
    return value


def perfect_tree(levels, leaf=0, symbol=2):
    value = (leaf,)
    for _ in range(levels - 1):
        value = (symbol, value, value)
    return value


DEEP = nested(5000)
DEEP_LIST = nested_list(5000)
NO_INTEGERS = [None, True, False, "1", (), (1,), [1], [], DEEP, DEEP_LIST]


def wrong_integers(least, most):
    return NO_INTEGERS + [least - 1, most + 1, -1000, 10 ** 30]


WRONG_ARITIES = [
    None, True, 0, "0", [0, 2], [], (), (0, 0, 0, 0, 0), (3,), (0, -1), (True,), (0, False), ("0",), (0, None),
    ((0,),), ([0],), DEEP, DEEP_LIST, (0, DEEP), (0,) * 100000,
]

# For the arities (0, 1, 2).
WRONG_TREES = [
    None, True, False, 0, "0", [0], [], (), (3,), (-1,), (True,), (False,), (None,), ("0",), ((0,),), (0, (0,)),
    (0, None), (1,), (1, 0), (1, [0]), (1, (0,), (0,)), (2,), (2, (0,)), (2, (0,), None), (2, (0,), [0]),
    (2, (0,), (0,), (0,)), (2, (0,), (False,)), (True, (0,)), (1, (1, (2, (0,), (1,)))), (1, perfect_tree(4)),
    nested_tree(15), perfect_tree(5), perfect_tree(60), nested_tree(5000), (2, (0,), nested_tree(5000)),
    (1, DEEP), DEEP, DEEP_LIST, [DEEP], (1, DEEP_LIST), (0,) * 100000, (DEEP,), (DEEP, (0,)),
]

WRONG_PLACES = [
    None, True, 0, "", "0", [], [0], (2,), (-1,), (0, True), (False,), (None,), ("0",), ((),), ((0,),), ([0],),
    (0,) * 15, (0, 1, 2), DEEP, DEEP_LIST, (DEEP,), (0, DEEP_LIST), (0,) * 100000,
]

LEAF_AND_FLAGS = ((0,), (True,), (0,))
WRONG_AUTOMATA = [
    None, True, 0, "", [], (), (0,), ((0,), (True,)), ((0,), (True,), (0,), ()), [(0,), (True,), (0,)],
    ([0], (True,), (0,)), ((0,), [True], (0,)), ((0,), (True,), [0]), ((), (True,), ()), ((3,), (True,), (0,)),
    ((0,) * 5, (True,), (0,) * 5), ((0,), (), (0,)), ((0,), (True,) * 5, (0,)), ((0,), (1,), (0,)),
    ((0,), (None,), (0,)), ((0,), ("True",), (0,)), ((0,), (True,), ()), ((0,), (True,), (0, 0)),
    ((0,), (True,), (1,)), ((0,), (True,), (-1,)), ((0,), (True,), (False,)), ((0,), (True, False), (True,)),
    ((0,), (True,), (None,)), ((0,), (True,), ((0,),)), ((1,), (), ((),)), ((2,), (), ((),)), ((1,), (True,), (0,)),
    ((1,), (True,), ([0],)),
    ((1,), (True,), ((0, 0),)), ((1,), (True,), ((),)), ((1,), (True,), ((1,),)), ((1,), (True,), ((False,),)),
    ((1,), (True,), (((0,),),)), ((2,), (True,), (0,)), ((2,), (True,), ((0,),)), ((2,), (True,), (((0,), (0,)),)),
    ((2,), (True,), (((0, 0),),)), ((2,), (True,), (([0],),)), ((2,), (True,), (((False,),),)),
    ((2,), (True,), (((1,),),)), ((2,), (True,), ((((0,),),),)), ((False,), (True,), (0,)),
    ((0, 2), (True, False), (0, ((0, 1), (0,)))), ((0, 2), (True, False), (0, ((0, 1), [0, 1]))),
    ((0, 2), (True, False), (0, ((0, 1), (0, 2)))), ((0, 2), (True, False), (0, ((0, 1), (0, True)))),
    DEEP, DEEP_LIST, (DEEP, (True,), (0,)), ((0,), DEEP, (0,)), ((0,), (DEEP,), (0,)), ((0,), (True,), DEEP),
    ((0,), (True,), (DEEP,)), ((1,), (True,), (DEEP,)), ((2,), (True,), ((DEEP,),)), ((0,), (True,), (DEEP_LIST,)),
    ((0,), (True,) * 100000, (0,)), ((0,), (True,), (0,) * 100000),
]


# --- a slow and plain telling of trees and automata


def symbols(tree):
    """The symbols, each node before its children."""
    told = [tree[0]]
    for child in tree[1:]:
        told += symbols(child)
    return told


def nodes(tree):
    return len(symbols(tree))


def levels(tree):
    return 1 + max([levels(child) for child in tree[1:]] + [0])


def rank(tree):
    return (nodes(tree), symbols(tree))


def all_trees(arities, most):
    """All trees with at most so many nodes, in order."""
    by_size = {0: []}
    for size in range(1, most + 1):
        found = []
        for symbol, arity in enumerate(arities):
            if arity == 0 and size == 1:
                found.append((symbol,))
            if arity == 1:
                found += [(symbol, child) for child in by_size[size - 1]]
            if arity == 2:
                for part in range(1, size - 1):
                    found += [(symbol, a, b) for a in by_size[part] for b in by_size[size - 1 - part]]
        by_size[size] = found
    return sorted([tree for size in by_size for tree in by_size[size]], key=rank)


def at_place(tree, place):
    for number in place:
        if len(tree) <= number + 1:
            return None
        tree = tree[number + 1]
    return tree


def all_places(tree):
    """Every place, found by trying those of up to 14 numbers that can be one."""
    found, tried = [], [()]
    while tried:
        place = tried.pop()
        if at_place(tree, place) is not None:
            found.append(place)
            tried += [place + (0,), place + (1,)]
    return sorted(found)


def exchanged(tree, place, other):
    if not place:
        return other
    children = list(tree[1:])
    children[place[0]] = exchanged(children[place[0]], place[1:], other)
    return (tree[0], *children)


def alike(first, second, depth):
    """Whether both trees are equal to the depth, by the symbols and places of the first levels."""
    def seen(tree):
        return [(place, at_place(tree, place)[0]) for place in all_places(tree) if len(place) < depth]
    return seen(first) == seen(second)


def alike_along(first, second, place, depth):
    return all(alike(at_place(first, place[:k]), at_place(second, place[:k]), depth) for k in range(len(place)))


def entry_state(entry, states):
    for state in states:
        entry = entry[state]
    return entry


def state(automaton, tree):
    return entry_state(automaton[2][tree[0]], [state(automaton, child) for child in tree[1:]])


def good(automaton, tree):
    return automaton[1][state(automaton, tree)]


def random_entry(chance, arity, many):
    if arity == 0:
        return chance.randrange(many)
    return tuple(random_entry(chance, arity - 1, many) for _ in range(many))


def random_automaton(chance, arities, many):
    flags = tuple(chance.random() < 0.5 for _ in range(many))
    return (arities, flags, tuple(random_entry(chance, arity, many) for arity in arities))


MANY_ARITIES = [
    (0,), (0, 1), (0, 2), (0, 0, 2), (0, 1, 2), (2, 0), (1, 0), (1, 2, 0), (0, 1, 1), (0, 0, 1, 2), (2, 1, 0, 0),
    (1,), (2,), (1, 2), (2, 2, 1, 1),
]


def many_automata(seed, times, all_arities=tuple(MANY_ARITIES)):
    """The same automata each time, of 1 to 4 states, for many arities."""
    chance = random.Random(seed)
    return [
        random_automaton(chance, arities, many)
        for arities in all_arities for many in (1, 2, 3, 4) for _ in range(times)
    ]


def reached_by_trees(automaton):
    """The states of trees, height by height, as an ascending tuple."""
    found = set()
    while True:
        come = {
            entry_state(automaton[2][symbol], states)
            for symbol, arity in enumerate(automaton[0])
            for states in itertools.product(sorted(found), repeat=arity)
        }
        if come <= found:
            return tuple(sorted(found))
        found |= come


def closed(automaton, chosen):
    """Whether every step from the chosen states leads to one of them."""
    return all(
        entry_state(entry, states) in chosen
        for arity, entry in zip(automaton[0], automaton[2])
        for states in itertools.product(chosen, repeat=arity)
    )


# --- evidence, and the same with one thing changed


def is_whole(value):
    """Whether the value is an integer, and not True or False."""
    return type(value) is int


def is_one_of(value, many):
    return is_whole(value) and 0 <= value < many


def is_plain_tree(arities, value):
    """Whether the value is a tree, told by making it node by node."""
    def count(node, left):
        if left < 1 or type(node) is not tuple or not node or not is_one_of(node[0], len(arities)):
            return 1000
        if len(node) != 1 + arities[node[0]]:
            return 1000
        return 1 + sum(count(child, left - 1) for child in node[1:])
    return count(value, 15) <= 15


def changed(value):
    """The same value with one thing in it of another form, changed, left out, put in, twice or out of order."""
    found = [None, -1, "", (value,), DEEP, DEEP_LIST]
    if type(value) is int:
        found += [value - 1, value + 1, str(value), 10 ** 30] + ([bool(value)] if value in (0, 1) else [])
    elif type(value) is bool:
        found += [int(value), not value]
    elif type(value) is str:
        found += [value + " ", value.upper(), value[:-1], 0]
    elif type(value) is tuple:
        found += [list(value), value + value, value[::-1]]
        for at in range(len(value)):
            found += [value[:at] + value[at + 1:], value[:at + 1] + value[at:]]
            found += [value[:at] + (put_in,) + value[at:] for put_in in (0, 1, None, (), (0,), (0, 0), DEEP)]
            found += [value[:at] + (one,) + value[at + 1:] for one in changed(value[at])]
            found += [value[:at] + (value[other],) + value[at + 1:] for other in range(len(value))]
    return found
