"""The commands of a garden: their forms, and what they make of its automaton and its trees."""

from rootfirst.errors import NotPossible
from rootfirst.forms import MOST_NODES, are_integers, is_integer, is_tuple
from rootfirst.nodes import part_at, replaced, size_of
from rootfirst.trees import is_place, is_tree

MOST_TREES = 12
MOST_COMMANDS = 20


def is_command(automaton, value):
    """Returns True if the value is a command for the automaton."""
    if not is_tuple(value, 2, 5):
        return False
    word = value[0]
    if word == "step":
        return len(value) == 4 and _is_step(automaton, value[1], value[2], value[3])
    if word == "good":
        return len(value) == 3 and _is_state(automaton, value[1]) and isinstance(value[2], bool)
    if word == "put":
        return len(value) == 2 and is_tree(automaton[0], value[1])
    if word == "swap":
        return len(value) == 5 and _is_numbered_place(value[1], value[2]) and _is_numbered_place(value[3], value[4])
    return word == "take" and len(value) == 2 and _is_number(value[1])


def _is_state(automaton, value):
    """Returns True if the value is a state of the automaton."""
    return is_integer(value, 0, len(automaton[1]) - 1)


def _is_step(automaton, symbol, states, state):
    """Returns True if the items are a symbol, a tuple with a state for each of its children, and a state."""
    arities, good, _ = automaton
    if not is_integer(symbol, 0, len(arities) - 1) or not is_tuple(states, arities[symbol], arities[symbol]):
        return False
    return are_integers(states, 0, len(good) - 1) and _is_state(automaton, state)


def _is_number(value):
    """Returns True if the value can be the number of a tree."""
    return is_integer(value, 0, MOST_TREES - 1)


def _is_numbered_place(number, place):
    """Returns True if the items can be the number of a tree, and a place of it."""
    return _is_number(number) and is_place(place)


def carried_out(automaton, trees, command):
    """Returns the pair of the automaton and the trees behind a command, and refuses one that is not possible."""
    word = command[0]
    if word == "step":
        return (_with_step(automaton, command[1], command[2], command[3]), trees)
    if word == "good":
        return (_with_flag(automaton, command[1], command[2]), trees)
    if word == "put":
        return (automaton, _with_tree(trees, command[1]))
    if word == "swap":
        return (automaton, _swapped(trees, command[1], command[2], command[3], command[4]))
    return (automaton, _without_tree(trees, command[1]))


def _with_item(items, at, item):
    """Returns the tuple with another item at the index."""
    return items[:at] + (item,) + items[at + 1:]


def _with_step(automaton, symbol, states, state):
    """Returns the automaton in which the symbol leads from the states to the state."""
    arities, good, steps = automaton
    return (arities, good, _with_item(steps, symbol, _with_goal(steps[symbol], states, state)))


def _with_goal(entry, states, goal):
    """Returns the entry of a symbol that leads from the states of the children to the goal."""
    if states == ():
        return goal
    return _with_item(entry, states[0], _with_goal(entry[states[0]], states[1:], goal))


def _with_flag(automaton, state, flag):
    """Returns the automaton in which the state is good, or not, as the flag says."""
    arities, good, steps = automaton
    return (arities, _with_item(good, state, flag), steps)


def _with_tree(trees, tree):
    """Returns the trees with one more behind them."""
    if len(trees) == MOST_TREES:
        raise NotPossible("many")
    return trees + (tree,)


def _without_tree(trees, number):
    """Returns the trees without the one with the number."""
    if number >= len(trees):
        raise NotPossible("missing")
    return trees[:number] + trees[number + 1:]


def _swapped(trees, number, place, other, later):
    """Returns the trees in which the parts at both places have changed places."""
    if max(number, other) >= len(trees):
        raise NotPossible("missing")
    near, far = part_at(trees[number], place), part_at(trees[other], later)
    if near is None or far is None:
        raise NotPossible("place")
    if number == other and _is_beginning_of_other(place, later):
        raise NotPossible("overlap")
    half = _with_item(trees, number, replaced(trees[number], place, far))
    both = _with_item(half, other, replaced(half[other], later, near))
    if size_of(both[number]) > MOST_NODES or size_of(both[other]) > MOST_NODES:
        raise NotPossible("great")
    return both


def _is_beginning_of_other(place, later):
    """Returns True if one of the places is a beginning of the other one, or they are equal."""
    many = min(len(place), len(later))
    return place[:many] == later[:many]
