"""What several tests need: a test case with the errors of the program, wrong values,
and a slow and plain telling of trees and automata that shares nothing with the program."""

import functools
import itertools
import random
import unittest

from rootfirst.errors import BadValue, NotPossible, TextError, TooLarge


class Case(unittest.TestCase):
    def shows(self, got, text):
        """The value is shown by exactly this text, so that True is not 1, and a list no tuple."""
        self.assertEqual(repr(got), text)

    def same(self, got, wanted):
        self.assertEqual(repr(got), repr(wanted))

    def bad(self, name, function, *arguments):
        with self.assertRaises(BadValue) as caught:
            function(*arguments)
        self.assertEqual(caught.exception.name, name)

    def not_possible(self, why, function, *arguments):
        with self.assertRaises(NotPossible) as caught:
            function(*arguments)
        self.assertEqual(caught.exception.why, why)

    def too_large(self, what, function, *arguments):
        with self.assertRaises(TooLarge) as caught:
            function(*arguments)
        self.assertEqual(caught.exception.what, what)

    def refuses_in_order(self, function, rights, wrongs):
        """Each wrong value is refused by the name of its parameter, and of several wrong
        ones the first is named. `wrongs` has a pair of a name and a list of wrong
        values for each parameter that is checked, in the order of the parameters."""
        many = len(wrongs)
        for at in range(many):
            name, values = wrongs[at]
            for number, value in enumerate(values):
                with self.subTest(function=function.__name__, name=name, number=number):
                    arguments = list(rights)
                    arguments[at] = value
                    self.bad(name, function, *arguments)
        for chosen in itertools.product((False, True), repeat=many):
            if any(chosen):
                arguments = list(rights)
                for at in range(many):
                    if chosen[at]:
                        arguments[at] = wrongs[at][1][0]
                self.bad(wrongs[chosen.index(True)][0], function, *arguments)


class TextCase(Case):
    def wrong_text(self, column, words, function, *arguments):
        with self.assertRaises(TextError) as caught:
            function(*arguments)
        error = caught.exception
        self.assertEqual((type(error.column), error.column, error.words), (int, column, words), arguments[-1])


def nested(many, value=()):
    """A value nested so deep in tuples."""
    for _ in range(many):
        value = (value,)
    return value


def nested_list(many):
    value = []
    for _ in range(many):
        value = [value]
    return value


def nested_tree(many, value=(0,)):
    """A tree of so many nodes and the leaf 0 (or another end), each with the symbol 1 and one child."""
    for _ in range(many):
        value = (1, value)
    return value


def perfect_tree(levels, leaf=0, symbol=2):
    value = (leaf,)
    for _ in range(levels - 1):
        value = (symbol, value, value)
    return value


DEEP = nested(5000)
DEEP_LIST = nested_list(5000)
NO_INTEGERS = [None, True, False, "1", (), (1,), [1], [], DEEP, DEEP_LIST]


def wrong_integers(least, most):
    return NO_INTEGERS + [least - 1, most + 1, -1000, 10 ** 30]


WRONG_ARITIES = [
    None, True, 0, "0", [0, 2], [], (), (0, 0, 0, 0, 0), (3,), (0, -1), (True,), (0, False), ("0",), (0, None),
    ((0,),), ([0],), DEEP, DEEP_LIST, (0, DEEP), (0,) * 100000,
]

# For the arities (0, 1, 2).
WRONG_TREES = [
    None, True, False, 0, "0", [0], [], (), (3,), (-1,), (True,), (False,), (None,), ("0",), ((0,),), (0, (0,)),
    (0, None), (1,), (1, 0), (1, [0]), (1, (0,), (0,)), (2,), (2, (0,)), (2, (0,), None), (2, (0,), [0]),
    (2, (0,), (0,), (0,)), (2, (0,), (False,)), (True, (0,)), (1, (1, (2, (0,), (1,)))), (1, perfect_tree(4)),
    nested_tree(15), perfect_tree(5), perfect_tree(60), nested_tree(5000), (2, (0,), nested_tree(5000)),
    (1, DEEP), DEEP, DEEP_LIST, [DEEP], (1, DEEP_LIST), (0,) * 100000, (DEEP,), (DEEP, (0,)),
]

WRONG_PLACES = [
    None, True, 0, "", "0", [], [0], (2,), (-1,), (0, True), (False,), (None,), ("0",), ((),), ((0,),), ([0],),
    (0,) * 15, (0, 1, 2), DEEP, DEEP_LIST, (DEEP,), (0, DEEP_LIST), (0,) * 100000,
]

WRONG_AUTOMATA = [
    None, True, 0, "", [], (), (0,), ((0,), (True,)), ((0,), (True,), (0,), ()), [(0,), (True,), (0,)],
    ([0], (True,), (0,)), ((0,), [True], (0,)), ((0,), (True,), [0]), ((), (True,), ()), ((3,), (True,), (0,)),
    ((0,) * 5, (True,), (0,) * 5), ((0,), (), (0,)), ((0,), (True,) * 5, (0,)), ((0,), (1,), (0,)),
    ((0,), (None,), (0,)), ((0,), ("True",), (0,)), ((0,), (True,), ()), ((0,), (True,), (0, 0)),
    ((0,), (True,), (1,)), ((0,), (True,), (-1,)), ((0,), (True,), (False,)), ((0,), (True, False), (True,)),
    ((0,), (True,), (None,)), ((0,), (True,), ((0,),)), ((1,), (), ((),)), ((2,), (), ((),)), ((1,), (True,), (0,)),
    ((1,), (True,), ([0],)),
    ((1,), (True,), ((0, 0),)), ((1,), (True,), ((),)), ((1,), (True,), ((1,),)), ((1,), (True,), ((False,),)),
    ((1,), (True,), (((0,),),)), ((2,), (True,), (0,)), ((2,), (True,), ((0,),)), ((2,), (True,), (((0,), (0,)),)),
    ((2,), (True,), (((0, 0),),)), ((2,), (True,), (([0],),)), ((2,), (True,), (((False,),),)),
    ((2,), (True,), (((1,),),)), ((2,), (True,), ((((0,),),),)), ((False,), (True,), (0,)),
    ((0, 2), (True, False), (0, ((0, 1), (0,)))), ((0, 2), (True, False), (0, ((0, 1), [0, 1]))),
    ((0, 2), (True, False), (0, ((0, 1), (0, 2)))), ((0, 2), (True, False), (0, ((0, 1), (0, True)))),
    DEEP, DEEP_LIST, (DEEP, (True,), (0,)), ((0,), DEEP, (0,)), ((0,), (DEEP,), (0,)), ((0,), (True,), DEEP),
    ((0,), (True,), (DEEP,)), ((1,), (True,), (DEEP,)), ((2,), (True,), ((DEEP,),)), ((0,), (True,), (DEEP_LIST,)),
    ((0,), (True,) * 100000, (0,)), ((0,), (True,), (0,) * 100000),
]

# For the arities (0, 1, 2).
WRONG_SKETCHES = [
    True, False, 0, "0", [0], [None], [], (), (3,), (-1,), (True,), (False,), (None,), ("0",), ((0,),), (0, (0,)),
    (0, None), (1,), (1, 0), (1, [None]), (1, None, None), (2,), (2, None), (2, (0,), 0), (2, (0,), ()), (2, [0], None),
    (2, None, None, None), (None, (0,)), (None, None, None), (True, None), (1, (1, (2, (0,), (1,)))), (1, (0, None)),
    nested_tree(15), nested_tree(15, None), perfect_tree(5), perfect_tree(60), nested_tree(5000),
    nested_tree(5000, None), (2, None, nested_tree(5000)), (1, DEEP), DEEP, DEEP_LIST, (1, DEEP_LIST),
    (None,) * 100000, (DEEP, None),
]

WRONG_TEXTS = [
    None, True, False, 0, 1, (), ("a",), [], ["a"], b"a", "\n", "a\n", "\na", "a" * 1001, " " * 1001, "a" * 100000,
    "a" * 1000 + "\n", DEEP, DEEP_LIST,
]

# For the arities (0, 1, 2), beside the rows of a table that is right.
ALL_OF = (((), (0,), (0, 0)),)
WRONG_TABLES = [
    None, True, 0, "", [], (), (0,), [0, ALL_OF], (0, list(ALL_OF)), (0, ALL_OF, ()), (0, ()), (1, ALL_OF),
    (-1, ALL_OF), (None, ALL_OF), (False, ALL_OF), ("0", ALL_OF), ((0,), ALL_OF), (0, ALL_OF * 5),
    (0, (None,)), (0, ([(), (0,), (0, 0)],)), (0, (((), (0,)),)), (0, (((), (0,), (0, 0), ()),)), (0, ((),)),
    (0, ((0, (0,), (0, 0)),)), (0, (((), 0, (0, 0)),)), (0, (((), (), (0, 0)),)), (0, (((), (0, 0), (0, 0)),)),
    (0, (((), (0,), (0,)),)), (0, (((), (0,), (0, 0, 0)),)), (0, (((), [0], (0, 0)),)), (0, (((), (1,), (0, 0)),)),
    (0, (((), (-1,), (0, 0)),)), (0, (((), (False,), (0, 0)),)), (0, (((), (None,), (0, 0)),)),
    (0, (((0,), (0,), (0, 0)),)), (0, (((), (0,), (0, True)),) * 2), (0, ((False, (0,), (0, 0)),)),
    (0, (([], (0,), (0, 0)),)), DEEP, DEEP_LIST, (DEEP, ALL_OF), (0, DEEP),
    (0, (DEEP,)), (0, ((DEEP, (0,), (0, 0)),)), (0, (((), (DEEP,), (0, 0)),)),
    (0, ALL_OF * 100000), (0, (((), (0,), (0,) * 100000),)), (0, (((),) * 100000,)),
]


# --- a slow and plain telling of trees and automata


def symbols(tree):
    """The symbols, each node before its children."""
    told = [tree[0]]
    for child in tree[1:]:
        told += symbols(child)
    return told


def nodes(tree):
    return len(symbols(tree))


def levels(tree):
    return 1 + max([levels(child) for child in tree[1:]] + [0])


def rank(tree):
    return (nodes(tree), symbols(tree))


def all_trees(arities, most):
    """All trees with at most so many nodes, in order."""
    by_size = {0: []}
    for size in range(1, most + 1):
        found = []
        for symbol, arity in enumerate(arities):
            if arity == 0 and size == 1:
                found.append((symbol,))
            if arity == 1:
                found += [(symbol, child) for child in by_size[size - 1]]
            if arity == 2:
                for part in range(1, size - 1):
                    found += [(symbol, a, b) for a in by_size[part] for b in by_size[size - 1 - part]]
        by_size[size] = found
    return sorted([tree for size in by_size for tree in by_size[size]], key=rank)


def at_place(tree, place):
    for number in place:
        if len(tree) <= number + 1:
            return None
        tree = tree[number + 1]
    return tree


def all_places(tree):
    """Every place, found by trying those of up to 14 numbers that can be one."""
    found, tried = [], [()]
    while tried:
        place = tried.pop()
        if at_place(tree, place) is not None:
            found.append(place)
            tried += [place + (0,), place + (1,)]
    return sorted(found)


def exchanged(tree, place, other):
    if not place:
        return other
    children = list(tree[1:])
    children[place[0]] = exchanged(children[place[0]], place[1:], other)
    return (tree[0], *children)


def alike(first, second, depth):
    """Whether both trees are equal to the depth, by the symbols and places of the first levels."""
    def seen(tree):
        return [(place, at_place(tree, place)[0]) for place in all_places(tree) if len(place) < depth]
    return seen(first) == seen(second)


def alike_along(first, second, place, depth):
    return all(alike(at_place(first, place[:k]), at_place(second, place[:k]), depth) for k in range(len(place)))


@functools.lru_cache(maxsize=None)
def top(tree, depth):
    """What is seen of the tree in its first levels, so that two trees are equal to the depth if it is the same."""
    return () if depth == 0 else (tree[0],) + tuple([top(child, depth - 1) for child in tree[1:]])


def path_tops(tree, place, depth):
    """What is seen on the path to the place, so that two trees are equal along it if it is the same."""
    return tuple([top(at_place(tree, place[:many]), depth) for many in range(len(place))])


def entry_state(entry, states):
    for state in states:
        entry = entry[state]
    return entry


def state(automaton, tree):
    return entry_state(automaton[2][tree[0]], [state(automaton, child) for child in tree[1:]])


def good(automaton, tree):
    return automaton[1][state(automaton, tree)]


def random_entry(chance, arity, many):
    if arity == 0:
        return chance.randrange(many)
    return tuple(random_entry(chance, arity - 1, many) for _ in range(many))


def random_automaton(chance, arities, many):
    flags = tuple(chance.random() < 0.5 for _ in range(many))
    return (arities, flags, tuple(random_entry(chance, arity, many) for arity in arities))


MANY_ARITIES = [
    (0,), (0, 1), (0, 2), (0, 0, 2), (0, 1, 2), (2, 0), (1, 0), (1, 2, 0), (0, 1, 1), (0, 0, 1, 2), (2, 1, 0, 0),
    (1,), (2,), (1, 2), (2, 2, 1, 1),
]


def many_automata(seed, times, all_arities=tuple(MANY_ARITIES)):
    """The same automata each time, of 1 to 4 states, for many arities."""
    chance = random.Random(seed)
    return [
        random_automaton(chance, arities, many)
        for arities in all_arities for many in (1, 2, 3, 4) for _ in range(times)
    ]


def random_table(chance, arities, many):
    def entry(arity):
        return None if chance.random() < 0.3 else tuple(chance.randrange(many) for _ in range(arity))
    rows = tuple(tuple(entry(arity) for arity in arities) for _ in range(many))
    return (chance.randrange(many), rows)


def many_tables(seed, times):
    """Pairs of arities and a table, the same each time, with 1 to 4 states."""
    chance = random.Random(seed)
    return [(arities, random_table(chance, arities, many))
            for arities in MANY_ARITIES for many in (1, 2, 3, 4) for _ in range(times)]


def reached_by_trees(automaton):
    """The states of trees, height by height, as an ascending tuple."""
    found = set()
    while True:
        come = {
            entry_state(automaton[2][symbol], states)
            for symbol, arity in enumerate(automaton[0])
            for states in itertools.product(sorted(found), repeat=arity)
        }
        if come <= found:
            return tuple(sorted(found))
        found |= come


def closed(automaton, chosen):
    """Whether every step from the chosen states leads to one of them."""
    return all(
        entry_state(entry, states) in chosen
        for arity, entry in zip(automaton[0], automaton[2])
        for states in itertools.product(chosen, repeat=arity)
    )


# --- exchange, word by word


def couple_rank(first, second):
    """Point 63: what puts two trees in order."""
    return (nodes(first) + nodes(second), nodes(first), rank(first), rank(second))


def couples_of(ones, others):
    """All couples of one of the trees each, in order."""
    return sorted(itertools.product(ones, others), key=lambda couple: couple_rank(*couple))


def made(automaton, layer):
    """Point 64: the pairs that some symbol makes from pairs of the layer."""
    return {
        tuple([entry_state(entry, [pair[side] for pair in chosen]) for side in (0, 1)])
        for arity, entry in zip(automaton[0], automaton[2])
        for chosen in itertools.product(layer, repeat=arity)
    }


def pairs_at(automaton, depth):
    layer = set(itertools.product(reached_by_trees(automaton), repeat=2))
    for _ in range(depth):
        layer = made(automaton, layer)
    return layer


def climbed_from(automaton, triple, layer):
    """Point 65: all triples that come from the triple by a climb with pairs of the layer, by the climb."""
    found = {}
    for symbol, (arity, entry) in enumerate(zip(automaton[0], automaton[2])):
        if arity == 1:
            found[(symbol, 0, None)] = tuple([entry[state] for state in triple])
        for pair in layer if arity == 2 else ():
            beside = (pair[0], pair[1], pair[0])
            found[(symbol, 0, pair)] = tuple([entry[state][other] for state, other in zip(triple, beside)])
            found[(symbol, 1, pair)] = tuple([entry[other][state] for state, other in zip(triple, beside)])
    return found


def met_with(automaton, layer):
    """Point 65: the triples that are met, if the layer has the pairs at one level less."""
    found = {(one, other, other) for one, other in layer}
    while True:
        come = {new for triple in found for new in climbed_from(automaton, triple, layer).values()}
        if come <= found:
            return found
        found |= come


def is_wrong_triple(automaton, triple):
    flags = automaton[1]
    return flags[triple[0]] and flags[triple[1]] and not flags[triple[2]]


def closed_at(automaton, depth):
    """Point 66."""
    triples = met_with(automaton, pairs_at(automaton, depth - 1))
    return not any(is_wrong_triple(automaton, triple) for triple in triples)


def least_look(automaton):
    """Point 73: the least look-ahead, or None: if one level more leaves the pairs as they are, so do all."""
    layer, before, depth = pairs_at(automaton, 0), None, 1
    while layer != before:
        if not any(is_wrong_triple(automaton, triple) for triple in met_with(automaton, layer)):
            return depth
        layer, before, depth = made(automaton, layer), layer, depth + 1
    return None


def exchanged_from(trees, depth, most):
    """Point 93: what comes from the trees by grafts, again and again, as far as all trees on the way have at most
    so many nodes."""
    found, waiting = set(trees), set(trees)
    around, below = {}, {}
    while waiting:
        tree = waiting.pop()
        for place in all_places(tree):
            key, part = (place, path_tops(tree, place, depth)), at_place(tree, place)
            rest = exchanged(tree, place, None)
            come = [exchanged(rest, place, other) for other in below.setdefault(key, set())]
            come += [exchanged(other, place, part) for other in around.setdefault(key, set())]
            below[key].add(part)
            around[key].add(rest)
            waiting |= {new for new in come if new not in found and nodes(new) <= most}
            found |= waiting
    return found


def plain_sets(automaton, depth, tree):
    """Point 94, word by word: the set of each place that gets one, and the places that fail."""
    arities, flags, entries = automaton
    reached = reached_by_trees(automaton)

    def alike_states(part, many):
        if many == 0:
            return set(reached)
        below = [alike_states(child, many - 1) for child in part[1:]]
        return {entry_state(entries[part[0]], chosen) for chosen in itertools.product(*below)}

    sets, failing = {(): {state for state in reached if flags[state]}}, []
    for place in all_places(tree):
        if place not in sets:
            continue
        goal, part = sets[place], at_place(tree, place)
        if not alike_states(part, depth) & goal:
            failing.append(place)
            continue
        entry = entries[part[0]]
        if len(part) == 2:
            sets[place + (0,)] = {state for state in reached if entry[state] in goal}
        if len(part) == 3:
            first, second = alike_states(part[1], depth - 1), alike_states(part[2], depth - 1)
            sets[place + (0,)] = {one for one in reached if any(entry[one][other] in goal for other in second)}
            sets[place + (1,)] = {one for one in reached if any(entry[other][one] in goal for other in first)}
    return {place: tuple(sorted(sets[place])) for place in sets}, failing


def is_plainly_let_in(automaton, depth, tree):
    return plain_sets(automaton, depth, tree)[1] == []


@functools.lru_cache(maxsize=None)
def greater_trees(arities):
    most = {(0, 2): 13, (2, 0): 13, (0, 2, 2): 11, (0, 0, 2): 9, (0, 1, 2): 10, (1, 2, 0): 10}.get(arities, 8)
    return all_trees(arities, most)


# --- trees in part


def all_sketches(arities, most):
    """All sketches with at most so many nodes, holes counted."""
    def with_holes(tree):
        return None if tree[0] == len(arities) else (tree[0],) + tuple([with_holes(child) for child in tree[1:]])
    return [with_holes(tree) for tree in all_trees(arities + (0,), most)]


def plain_holes(sketch, place=()):
    if sketch is None:
        return [place]
    return [hole for number, child in enumerate(sketch[1:]) for hole in plain_holes(child, place + (number,))]


def count_nodes(sketch):
    return 1 if sketch is None else 1 + sum(count_nodes(child) for child in sketch[1:])


def filled(sketch, trees):
    """The sketch with the trees in its holes, one for each of them, in order."""
    for place, tree in zip(plain_holes(sketch), trees):
        sketch = exchanged(sketch, place, tree)
    return sketch


def completes(sketch, tree):
    """Whether the tree is a completion: each node of the sketch stands in it."""
    if sketch is None:
        return True
    return sketch[0] == tree[0] and all(completes(one, other) for one, other in zip(sketch[1:], tree[1:]))


@functools.lru_cache(maxsize=None)
def tree_of_each(automaton):
    """A tree for each state that some tree has, made height by height."""
    found = {}
    while True:
        come = {}
        for symbol, arity in enumerate(automaton[0]):
            for children in itertools.product(list(found.values()), repeat=arity):
                come.setdefault(state(automaton, (symbol, *children)), (symbol, *children))
        if all(one in found for one in come):
            return found
        found = {**come, **found}


def fillings(automaton, sketch, more=()):
    """All choices of trees for the holes, where each hole gets a tree of each state, and the ones that are given."""
    return itertools.product(list(tree_of_each(automaton).values()) + list(more), repeat=len(plain_holes(sketch)))


def plainly_possible(automaton, sketch):
    """Point 116: the states of the completions."""
    return tuple(sorted({state(automaton, filled(sketch, trees)) for trees in fillings(automaton, sketch)}))


def plain_verdict(automaton, sketch):
    """Point 117."""
    flags = {good(automaton, filled(sketch, trees)) for trees in fillings(automaton, sketch)}
    return "open" if len(flags) == 2 else "good" if flags == {True} else "bad"


def plainly_matters(automaton, sketch, place):
    """Point 118: whether two completions that differ at this hole alone are the one good and the other one not."""
    at, seen = plain_holes(sketch).index(place), {}
    for trees in fillings(automaton, sketch):
        seen.setdefault(trees[:at] + trees[at + 1:], set()).add(good(automaton, filled(sketch, trees)))
    return any(len(flags) == 2 for flags in seen.values())


def takers_behind(table, symbol, below):
    """The states whose entry for the symbol does not fail, and names a state of each set below."""
    return tuple([
        number for number, row in enumerate(table[1])
        if row[symbol] is not None and all(one in chosen for one, chosen in zip(row[symbol], below))])


def taken_by(automaton, table):
    """The states of all trees, each with the set of the states from which the table takes the tree."""
    found = set()
    while True:
        come = set()
        for symbol, (arity, entry) in enumerate(zip(automaton[0], automaton[2])):
            for chosen in itertools.product(found, repeat=arity):
                takers = takers_behind(table, symbol, [pair[1] for pair in chosen])
                come.add((entry_state(entry, [pair[0] for pair in chosen]), takers))
        if come <= found:
            return found
        found |= come


def table_automaton(arities, table):
    """An automaton of the trees that a table of at most two states takes, with the takers as its states."""
    start, rows = table
    sets = [chosen for many in range(len(rows) + 1) for chosen in itertools.combinations(range(len(rows)), many)]

    def entry(symbol, left, below):
        if left:
            return tuple([entry(symbol, left - 1, below + (chosen,)) for chosen in sets])
        return sets.index(takers_behind(table, symbol, below))

    steps = tuple([entry(symbol, arity, ()) for symbol, arity in enumerate(arities)])
    return (tuple(arities), tuple([start in chosen for chosen in sets]), steps)


# The two good trees of point 70; the trees with an even and with an odd number of leaves.
SWAP = ((0, 0, 2), (False, False, True, False), (0, 1, ((3, 2, 3, 3), (2, 3, 3, 3), (3, 3, 3, 3), (3, 3, 3, 3))))
PARITY = ((0, 2), (True, False), (1, ((0, 1), (1, 0))))
ODD = ((0, 2), (False, True), PARITY[2])
# The good trees of SWAP, with equally or unequally long chains of a symbol 3 above both leaves.
CHAINS = (SWAP[0] + (1,), SWAP[1], SWAP[2] + ((0, 1, 3, 3),))

# Pairs of a least look-ahead (point 73) and an automaton.
LOOKS = [
    (1, ((0, 0, 2), (False, False, True, False),
         (0, 1, ((3, 2, 3, 3), (3, 3, 3, 3), (3, 3, 3, 3), (3, 3, 3, 3))))),
    (1, ((0, 2), (True, False, True, False), (0, ((1, 2, 3, 3), (3, 3, 3, 3), (3, 3, 3, 3), (3, 3, 3, 3))))),
    (2, SWAP),
    (2, ((0, 0, 2), (False, True, True, False), (3, 1, ((3, 2, 3, 3), (3, 3, 2, 2), (3, 2, 3, 3), (1, 2, 3, 3))))),
    (2, ((0, 2), (True, False, False, True), (2, ((2, 0, 2, 3), (0, 3, 3, 3), (3, 3, 3, 1), (2, 3, 3, 3))))),
    (2, ((0, 1, 2), (False, True, False, True),
         (1, (0, 3, 2, 3), ((3, 3, 3, 3), (0, 2, 0, 0), (3, 2, 3, 3), (3, 3, 3, 3))))),
    (2, ((0, 2, 2), (False, False, False, True),
         (2, ((1, 2, 3, 1), (2, 1, 3, 1), (3, 3, 3, 3), (3, 3, 3, 3)),
          ((3, 3, 3, 2), (2, 3, 3, 1), (3, 3, 3, 3), (0, 3, 1, 1))))),
    (2, ((2, 1, 0, 0), (False, False, True, True),
         (((3, 1, 3, 3), (3, 3, 3, 3), (1, 3, 3, 3), (1, 2, 3, 3)), (2, 1, 3, 3), 0, 1))),
    (3, ((0, 2), (False, True, False, False), (2, ((3, 3, 3, 3), (3, 3, 3, 3), (3, 3, 0, 3), (1, 3, 3, 3))))),
    (3, ((0, 0, 2), (False, True, True, True), (2, 1, ((3, 3, 3, 3), (3, 2, 3, 3), (3, 3, 0, 3), (3, 3, 3, 3))))),
    (3, ((0, 1, 1, 2), (True, True, True, False),
         (1, (0, 0, 0, 3), (3, 2, 0, 0), ((3, 3, 3, 3), (0, 3, 0, 3), (3, 3, 3, 3), (3, 3, 0, 3))))),
    (4, ((0, 0, 1, 2), (False, False, True, False),
         (1, 1, (2, 1, 3, 3), ((0, 3, 0, 0), (0, 2, 3, 3), (3, 3, 0, 3), (3, 3, 3, 3))))),
    (4, ((0, 1, 2), (True, True, False, False),
         (2, (1, 3, 0, 3), ((3, 1, 3, 3), (3, 2, 3, 3), (2, 3, 2, 3), (3, 3, 3, 3))))),
    (None, PARITY), (None, ODD), (None, CHAINS),
]
BRANCHING = [arities for arities in MANY_ARITIES if 0 in arities and 2 in arities]


def looking_automata(seed, times):
    """Automata of all kinds, the same each time: closed at the depth 1, at a greater one, or at none; with few good
    trees, and with all or no states good; with 1 to 4 states; for arities without a leaf, too."""
    chance = random.Random(seed)
    found = [automaton for _, automaton in LOOKS]
    for arities in MANY_ARITIES:
        for many in (1, 2, 3, 4):
            found.append(random_automaton(chance, arities, many))
        for many in (1, 2):
            found.append(table_automaton(arities, random_table(chance, arities, many)))
        found.append((arities, (True,) * 3, random_automaton(chance, arities, 3)[2]))
        found.append((arities, (False,) * 3, random_automaton(chance, arities, 3)[2]))
    for arities in BRANCHING:
        for many in (3, 4):
            for _ in range(2 * times):
                found.append(random_automaton(chance, arities, many))
            for _ in range(times):
                _, flags, steps = random_automaton(chance, arities, many)
                found.append((arities, flags[:-1] + (False,), tuple([
                    tuple([tuple([many - 1 if chance.random() < 0.6 else one for one in row]) for row in entry])
                    if arity == 2 else entry for arity, entry in zip(arities, steps)])))
    return found


# --- gardens


class PlainGarden:
    """Points 125 to 133, word by word: it begins anew from its journal for each question."""

    def __init__(self, automaton):
        self.first, self.journal = automaton, []

    def now(self, many=20):
        """The arities, the lists of good states, steps (by symbol and states) and trees, behind so many commands."""
        arities, flags, entries = self.first
        flags, trees = list(flags), []
        steps = {
            (symbol, states): entry_state(entries[symbol], states)
            for symbol, arity in enumerate(arities)
            for states in itertools.product(range(len(flags)), repeat=arity)
        }
        for command in self.journal[:many]:
            if command[0] == "step":
                steps[command[1:3]] = command[3]
            elif command[0] == "good":
                flags[command[1]] = command[2]
            elif command[0] == "put":
                trees.append(command[1])
            elif command[0] == "take":
                del trees[command[1]]
            else:
                _, number, place, other, later = command
                one, two = at_place(trees[number], place), at_place(trees[other], later)
                trees[number] = exchanged(trees[number], place, two)
                trees[other] = exchanged(trees[other], later, one)
        return arities, flags, steps, trees

    def refusal(self, command):
        """The word of point 126 for a command of a right form, or the one of point 134, or None."""
        trees = self.now()[3]
        word = None
        if command[0] == "put" and len(trees) >= 12:
            word = "many"
        if command[0] == "take" and command[1] >= len(trees):
            word = "missing"
        if command[0] == "swap":
            word = self.swap_refusal(trees, *command[1:])
        return word or ("commands" if len(self.journal) >= 20 else None)

    @staticmethod
    def swap_refusal(trees, number, place, other, later):
        if not (number < len(trees) and other < len(trees)):
            return "missing"
        one, two = at_place(trees[number], place), at_place(trees[other], later)
        if one is None or two is None:
            return "place"
        if number == other:
            inside = [place[:many] for many in range(len(place) + 1)], [later[:many] for many in range(len(later) + 1)]
            return "overlap" if later in inside[0] or place in inside[1] else None
        grown = nodes(two) - nodes(one)
        return "great" if nodes(trees[number]) + grown > 15 or nodes(trees[other]) - grown > 15 else None

    def automaton(self):
        arities, flags, steps, _ = self.now()

        def entry(symbol, left, states):
            if left == 0:
                return steps[(symbol, states)]
            return tuple([entry(symbol, left - 1, states + (one,)) for one in range(len(flags))])

        return arities, tuple(flags), tuple([entry(symbol, arity, ()) for symbol, arity in enumerate(arities)])

    def states(self, many=20):
        _, _, steps, trees = self.now(many)

        def come_to(tree):
            return steps[(tree[0], tuple([come_to(child) for child in tree[1:]]))]

        return tuple([come_to(tree) for tree in trees])

    def records(self):
        return tuple([(command, self.states(at + 1)) for at, command in enumerate(self.journal)])


def is_plain_command(automaton, value):
    """Point 126: the form of a command."""
    arities, many = automaton[0], len(automaton[1])
    if type(value) is not tuple or not value or type(value[0]) is not str:
        return False
    word, told = value[0], value[1:]
    if word == "step" and len(told) == 3 and is_one_of(told[0], len(arities)) and type(told[1]) is tuple:
        right = len(told[1]) == arities[told[0]] and all(is_one_of(one, many) for one in told[1])
        return right and is_one_of(told[2], many)
    if word == "good" and len(told) == 2:
        return is_one_of(told[0], many) and type(told[1]) is bool
    if word == "put" and len(told) == 1:
        return is_plain_tree(arities, told[0])
    if word == "swap" and len(told) == 4:
        return all(is_one_of(told[at], 12) and is_plain_place(told[at + 1]) for at in (0, 2))
    return word == "take" and len(told) == 1 and is_one_of(told[0], 12)


def random_command(chance, automaton, trees, small):
    """A command for the automaton, most often a possible one if these are the trees of a garden."""
    arities, many = automaton[0], len(automaton[1])
    what = chance.choice(["step", "good", "put", "put", "swap", "swap", "swap", "swap", "take"])
    if what == "step":
        symbol = chance.randrange(len(arities))
        return (what, symbol, tuple([chance.randrange(many) for _ in range(arities[symbol])]), chance.randrange(many))
    if what == "good":
        return (what, chance.randrange(many), chance.random() < 0.5)
    if what == "put" and small:
        return (what, chance.choice(small))
    if what == "swap" and trees:
        number, other = chance.randrange(len(trees)), chance.randrange(min(12, len(trees) + (chance.random() < 0.1)))
        places = [chance.choice(all_places(trees[at]) if at < len(trees) else [()]) for at in (number, other)]
        if chance.random() < 0.1:
            places[chance.randrange(2)] += (chance.randrange(2),)
        if all(len(place) <= 14 for place in places):
            return (what, number, places[0], other, places[1])
    return ("take", chance.randrange(max(1, min(12, len(trees) + (chance.random() < 0.2)))))


# For the arities (0, 1, 2) and two states.
RIGHT_COMMANDS = [
    ("step", 0, (), 1), ("step", 1, (1,), 0), ("step", 2, (0, 1), 1), ("good", 0, True), ("good", 1, False),
    ("put", (0,)), ("put", (2, (0,), (1, (0,)))), ("swap", 0, (), 1, ()), ("swap", 11, (0,) * 14, 0, (1,) * 14),
    ("take", 0), ("take", 11),
]
WRONG_COMMANDS = [
    None, True, 0, "", "take", [], (), ("take",), ["take", 0], ("take", 0, 0), ("take", 12), ("take", -1),
    ("take", True), ("take", None), ("take", "0"), ("take", (0,)), ("Take", 0), ("", 0), (None, 0), (("take",), 0),
    (True, 0), (0, 0), ("undo", 0), ("put",), ("put", None), ("put", (3,)), ("put", (1,)), ("put", (0,), 0),
    ("put", [0]), ("put", (False,)), ("put", (2, (0,), None)), ("good",), ("good", 0), ("good", 2, True),
    ("good", -1, True), ("good", 0, 1), ("good", 0, 0), ("good", 0, None), ("good", True, True), ("good", "0", True),
    ("good", 0, True, True), ("good", (0,), True), ("step",), ("step", 0, 0), ("step", 0, ()), ("step", 3, (), 0),
    ("step", -1, (), 0), ("step", False, (), 0), ("step", 0, (0,), 0), ("step", 0, (), 2), ("step", 0, (), -1),
    ("step", 0, (), True), ("step", 0, None, 0), ("step", 0, [], 0), ("step", 0, (), 0, 0), ("step", 1, (), 0),
    ("step", 1, (0, 0), 0), ("step", 1, (2,), 0), ("step", 1, (True,), 0), ("step", 1, 0, 0), ("step", 1, [0], 0),
    ("step", 2, (0,), 0), ("step", 2, (0, 2), 0), ("step", 2, (-1, 0), 0), ("step", 2, (0, False), 0),
    ("step", 2, (0, 0, 0), 0), ("step", 2, ((0,), (0,)), 0), ("swap",), ("swap", 0, (), 1), ("swap", 0, (), 1, (), ()),
    ("swap", 12, (), 1, ()), ("swap", 0, (), 12, ()), ("swap", -1, (), 1, ()), ("swap", True, (), 0, ()),
    ("swap", 0, (), False, ()), ("swap", 0, (2,), 1, ()), ("swap", 0, (), 1, (-1,)), ("swap", 0, [], 1, ()),
    ("swap", 0, (), 1, None), ("swap", 0, (True,), 1, ()), ("swap", 0, (), 1, (0,) * 15), ("swap", 0, (0,) * 15, 1, ()),
    ("swap", None, (), 1, ()), ("swap", 0, 0, 1, ()), ["swap", 0, (), 1, ()], ("put", DEEP), ("put", DEEP_LIST),
    ("put", nested_tree(15)), ("put", nested_tree(5000)), ("take", DEEP), (DEEP, 0), (DEEP_LIST, 0), DEEP, DEEP_LIST,
    ("good", DEEP, True), ("good", 0, DEEP), ("step", DEEP, (), 0), ("step", 0, DEEP, 0), ("step", 1, (DEEP,), 0),
    ("step", 0, (), DEEP), ("swap", 0, DEEP, 1, ()), ("swap", DEEP, (), 1, ()), ("swap", 0, (), 1, (DEEP,)),
    ("take", 0) * 50000,
]


# --- evidence, and the same with one thing changed


def is_whole(value):
    """Whether the value is an integer, and not True or False."""
    return type(value) is int


def is_one_of(value, many):
    return is_whole(value) and 0 <= value < many


def is_set_of(value, many):
    """Whether the value is a set of some of so many states."""
    return type(value) is tuple and all(is_one_of(one, many) for one in value) and list(value) == sorted(set(value))


def are_tuples_of(value, length, many):
    """Whether the value is an ascending tuple of different tuples of this length of some of so many states."""
    if type(value) is not tuple or not all(type(one) is tuple and len(one) == length for one in value):
        return False
    return all(is_one_of(state, many) for one in value for state in one) and list(value) == sorted(set(value))


def is_plain_place(value):
    return type(value) is tuple and len(value) <= 14 and all(is_one_of(number, 2) for number in value)


def is_plain_tree(arities, value):
    """Whether the value is a tree, told by making it node by node."""
    def count(node, left):
        if left < 1 or type(node) is not tuple or not node or not is_one_of(node[0], len(arities)):
            return 1000
        if len(node) != 1 + arities[node[0]]:
            return 1000
        return 1 + sum(count(child, left - 1) for child in node[1:])
    return count(value, 15) <= 15


def is_plain_seal(automaton, depth, value):
    """Point 67, word by word: whether the value is evidence that the good trees are closed at the depth."""
    many = len(automaton[1])
    if type(value) is not tuple or len(value) != 3 or not is_set_of(value[0], many):
        return False
    states, layers, triples = value
    if type(layers) is not tuple or len(layers) != depth or not all(are_tuples_of(one, 2, many) for one in layers):
        return False
    if not are_tuples_of(triples, 3, many) or not closed(automaton, states):
        return False
    if not set(itertools.product(states, repeat=2)) <= set(layers[0]):
        return False
    if not all(made(automaton, layers[at]) <= set(layers[at + 1]) for at in range(depth - 1)):
        return False
    if not {(one, other, other) for one, other in layers[-1]} <= set(triples):
        return False
    if not all(set(climbed_from(automaton, one, layers[-1]).values()) <= set(triples) for one in triples):
        return False
    return not any(is_wrong_triple(automaton, triple) for triple in triples)


def plain_seal(automaton, depth):
    """Point 67: the told evidence, or None if the good trees are not closed at the depth."""
    layers = [pairs_at(automaton, less) for less in range(depth)]
    triples = met_with(automaton, layers[-1])
    if any(is_wrong_triple(automaton, triple) for triple in triples):
        return None
    return (reached_by_trees(automaton), tuple([tuple(sorted(one)) for one in layers]), tuple(sorted(triples)))


def changed(value):
    """The same value with one thing in it of another form, changed, left out, put in, twice or out of order."""
    found = [None, -1, "", (value,), DEEP, DEEP_LIST]
    if type(value) is int:
        found += [value - 1, value + 1, str(value), 10 ** 30] + ([bool(value)] if value in (0, 1) else [])
    elif type(value) is bool:
        found += [int(value), not value]
    elif type(value) is str:
        found += [value + " ", value.upper(), value[:-1], 0]
    elif type(value) is tuple:
        found += [list(value), value + value, value[::-1]]
        for at in range(len(value)):
            found += [value[:at] + value[at + 1:], value[:at + 1] + value[at:]]
            found += [value[:at] + (put_in,) + value[at:] for put_in in (0, 1, None, (), (0,), (0, 0), DEEP)]
            found += [value[:at] + (one,) + value[at + 1:] for one in changed(value[at])]
            found += [value[:at] + (value[other],) + value[at + 1:] for other in range(len(value))]
    return found
