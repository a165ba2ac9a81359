"""Automata, the states of trees and of their parts, and the states that fit at a place."""

from rootfirst.forms import MOST_STATES, is_integer, is_tuple, require
from rootfirst.machines import lead, reached_states, state_of
from rootfirst.nodes import part_at, places_of
from rootfirst.trees import is_arities, is_place, is_tree


def is_automaton(value):
    """Returns True if the value is an automaton."""
    if not is_tuple(value, 3, 3) or not is_arities(value[0]):
        return False
    arities, good, steps = value
    if not is_tuple(good, 1, MOST_STATES) or not all([isinstance(flag, bool) for flag in good]):
        return False
    if not is_tuple(steps, len(arities), len(arities)):
        return False
    return all([_is_entry(entry, arity, len(good)) for entry, arity in zip(steps, arities)])


def _is_entry(value, arity, many):
    """Returns True if the value is the entry of a symbol of the arity, with so many states."""
    if arity == 0:
        return is_integer(value, 0, many - 1)
    return is_tuple(value, many, many) and all([_is_entry(entry, arity - 1, many) for entry in value])


def require_automaton_and_tree(automaton, tree):
    """Refuses what is not an automaton, or not a tree for its arities."""
    require(is_automaton(automaton), "automaton")
    require(is_tree(automaton[0], tree), "tree")


def require_automaton_and_state(automaton, state):
    """Refuses what is not an automaton, or not a state of it."""
    require(is_automaton(automaton), "automaton")
    require(is_integer(state, 0, len(automaton[1]) - 1), "state")


def require_automaton_and_depth(automaton, depth, least, most):
    """Refuses what is not an automaton, or not a depth within the bounds."""
    require(is_automaton(automaton), "automaton")
    require(is_integer(depth, least, most), "depth")


def tree_state(automaton, tree):
    """Returns the state of the tree."""
    require_automaton_and_tree(automaton, tree)
    return state_of(automaton, tree)


def takes(automaton, tree):
    """Returns True if the tree is good."""
    require_automaton_and_tree(automaton, tree)
    return automaton[1][state_of(automaton, tree)]


def run(automaton, tree):
    """Returns the tuple of pairs of each place and the state of the part there."""
    require_automaton_and_tree(automaton, tree)
    return tuple([(place, state_of(automaton, part_at(tree, place))) for place in places_of(tree)])


def accepts_run(automaton, tree, value):
    """Returns True if the value is the run of the tree."""
    told = run(automaton, tree)
    if not is_tuple(value, len(told), len(told)):
        return False
    # Only a value of this form is compared, since True is equal to 1.
    return all([_is_placed_state(pair) for pair in value]) and value == told


def _is_placed_state(value):
    """Returns True if the value is a pair of a place and an integer that can be a state."""
    return is_tuple(value, 2, 2) and is_place(value[0]) and is_integer(value[1], 0, MOST_STATES - 1)


def fitting(automaton, tree, place):
    """Returns the set of the states that fit at the place."""
    require_automaton_and_tree(automaton, tree)
    require(is_place(place) and part_at(tree, place) is not None, "place")
    states = reached_states(automaton)
    return tuple([state for state in states if automaton[1][_state_above(automaton, tree, place, state)]])


def _state_above(automaton, tree, place, state):
    """Returns the state of the tree if the part at the place had this state."""
    if place == ():
        return state
    states = [state_of(automaton, child) for child in tree[1:]]
    at = place[0]
    states[at] = _state_above(automaton, tree[at + 1], place[1:], state)
    return lead(automaton[2][tree[0]], states)


def reached(automaton):
    """Returns the set of the reached states."""
    require(is_automaton(automaton), "automaton")
    return reached_states(automaton)
