"""How many levels must be seen at least, and trees that look alike down to a depth."""

from rootfirst.climbing import has_wrong, met_triples
from rootfirst.couples import sizes_in_order, trees_by_size
from rootfirst.forms import MOST_LEVELS, MOST_SEARCHED, is_integer, is_tuple, require
from rootfirst.layers import different_layers, first_layers
from rootfirst.machines import state_of
from rootfirst.nodes import are_alike
from rootfirst.runs import is_automaton, require_automaton_and_depth
from rootfirst.trees import is_tree


def _require_states(automaton, depth, first, second):
    """Refuses what is not an automaton, or not a depth, or not a first or a second state."""
    require_automaton_and_depth(automaton, depth, 0, MOST_LEVELS)
    require(is_integer(first, 0, len(automaton[1]) - 1), "first")
    require(is_integer(second, 0, len(automaton[1]) - 1), "second")


def stable_depth(automaton):
    """Returns the stable depth."""
    require(is_automaton(automaton), "automaton")
    return len(different_layers(automaton)) - 1


def look_ahead(automaton):
    """Returns the least look-ahead, or None."""
    require(is_automaton(automaton), "automaton")
    for depth, layer in enumerate(different_layers(automaton)):
        # With one level more than the depth of the pairs that stand beside.
        if not has_wrong(automaton, met_triples(automaton, layer)):
            return depth + 1
    return None


def pair_trees(automaton, depth, first, second, size):
    """Returns the first two trees of these states that are equal to the depth, a pair, or None if there are none."""
    _require_states(automaton, depth, first, second)
    require(is_integer(size, 1, MOST_SEARCHED), "size")
    if (first, second) not in first_layers(automaton, depth + 1)[depth]:
        return None
    rows = trees_by_size(automaton[0], size)
    ones = [[tree for tree in row if state_of(automaton, tree) == first] for row in rows]
    others = [[tree for tree in row if state_of(automaton, tree) == second] for row in rows]
    for near, far in sizes_in_order(size):
        for one in ones[near]:
            for other in others[far]:
                if are_alike(one, other, depth):
                    return (one, other)
    return None


def accepts_pair(automaton, depth, first, second, value):
    """Returns True if the value is evidence that the two states are a pair at the depth."""
    _require_states(automaton, depth, first, second)
    if not is_tuple(value, 2, 2):
        return False
    one, other = value
    if not is_tree(automaton[0], one) or not is_tree(automaton[0], other):
        return False
    if state_of(automaton, one) != first or state_of(automaton, other) != second:
        return False
    return are_alike(one, other, depth)
