"""Counts of trees by size and state, and the trees of a size by their number in order.

A tree is made symbol by symbol, each node before its children. A *slot* is a
place that is to be filled next. What can stand behind it is told by `outside`:
at [nodes][state] in how many ways so many nodes are put behind the slot, if
the tree in the slot has the state. It has one row for each number of nodes
that leaves at least one for the slot; so slot and rest have len(outside)
nodes together.
"""

from rootfirst.forms import MOST_NODES
from rootfirst.machines import state_of
from rootfirst.nodes import size_of


def tree_counts(automaton):
    """Returns at [size][state] the number of trees, for the sizes from 0 to 15."""
    arities, good, steps = automaton
    counts = [[0 for _ in good]]
    for size in range(1, MOST_NODES + 1):
        row = [0 for _ in good]
        for symbol, arity in enumerate(arities):
            _add_trees(row, counts, steps[symbol], arity, size)
        counts.append(row)
    return counts


def _add_trees(row, counts, entry, arity, size):
    """Adds to the row the trees of the size under a symbol with this entry."""
    if arity == 0 and size == 1:
        row[entry] += 1
    if arity == 1:
        for state, many in enumerate(counts[size - 1]):
            row[entry[state]] += many
    if arity == 2:
        for part_size in range(1, size - 1):
            _add_pairs(row, counts[part_size], counts[size - 1 - part_size], entry)


def _add_pairs(row, ones, others, entry):
    """Adds to the row the trees with two children that are counted by state in `ones` and `others`."""
    for one, many in enumerate(ones):
        for other, more in enumerate(others):
            row[entry[one][other]] += many * more


def good_counts(automaton, counts):
    """Returns the numbers of the good trees of the sizes from 0 to 15."""
    return [sum([many for flag, many in zip(automaton[1], row) if flag]) for row in counts]


def nth_of_size(automaton, counts, size, index):
    """Returns the good tree of the size with the index among the good ones of this size."""
    return _picked(automaton, counts, _around_root(automaton, size), index)[0]


def number_in_size(automaton, counts, tree):
    """Returns how many good trees of the same size come before the tree."""
    return _passed(automaton, counts, _around_root(automaton, size_of(tree)), tree)


def _around_root(automaton, size):
    """Returns what can stand behind the root: nothing, if its state is good."""
    good = automaton[1]
    return [[int(flag) for flag in good]] + [[0 for _ in good] for _ in range(size - 1)]


def _ways(counts, outside):
    """Returns the number of the trees in the slot, each with what can stand behind it."""
    total = len(outside)
    found = 0
    for size in range(1, total + 1):
        found += sum([many * more for many, more in zip(counts[size], outside[total - size])])
    return found


def _seen_through(outside, entry):
    """Returns what stands behind a last child, by its state, of which the entry makes that of its parent."""
    return [[row[state] for state in entry] for row in outside]


def _behind_child(counts, outside, entry, left):
    """Returns what can stand behind a child, if so many children, this one among them, are left."""
    if left == 1:
        return _seen_through(outside, entry)
    return [
        [_ways(counts, _seen_through(outside[:nodes], rest)) for rest in entry]
        for nodes in range(len(outside))
    ]


def _symbol_ways(automaton, counts, outside, symbol):
    """Returns the number of the trees in the slot under this symbol, each with what can stand behind it."""
    arity = automaton[0][symbol]
    entry = automaton[2][symbol]
    if arity == 0:
        return outside[-1][entry]
    return _ways(counts, _behind_child(counts, outside[:-1], entry, arity))


def _picked(automaton, counts, outside, index):
    """Returns the tree in the slot, its state, and the index that is left for what stands behind it."""
    symbol = 0
    ways = _symbol_ways(automaton, counts, outside, symbol)
    while index >= ways:
        index -= ways
        symbol += 1
        ways = _symbol_ways(automaton, counts, outside, symbol)
    tree = (symbol,)
    entry = automaton[2][symbol]
    outside = outside[:-1]
    for left in range(automaton[0][symbol], 0, -1):
        behind = _behind_child(counts, outside, entry, left)
        child, state, index = _picked(automaton, counts, behind, index)
        tree = tree + (child,)
        entry = entry[state]
        outside = outside[:len(outside) - size_of(child)]
    return (tree, entry, index)


def _passed(automaton, counts, outside, tree):
    """Returns how many trees in the slot, each with what can stand behind it, come before the tree."""
    found = sum([_symbol_ways(automaton, counts, outside, symbol) for symbol in range(tree[0])])
    entry = automaton[2][tree[0]]
    outside = outside[:-1]
    for number, child in enumerate(tree[1:]):
        behind = _behind_child(counts, outside, entry, len(tree) - 1 - number)
        found += _passed(automaton, counts, behind, child)
        entry = entry[state_of(automaton, child)]
        outside = outside[:len(outside) - size_of(child)]
    return found
