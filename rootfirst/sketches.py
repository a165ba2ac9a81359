"""Sketches: trees in part, with holes that stand for any trees."""

from rootfirst.completing import holes_in, matters_at, states_with, verdict_on
from rootfirst.forms import is_tree_form, require
from rootfirst.machines import reached_states
from rootfirst.runs import is_automaton
from rootfirst.trees import is_place


def is_sketch(automaton, value):
    """Returns True if the value is a sketch for the automaton, which is not checked."""
    return is_tree_form(automaton[0], value, True)


def require_automaton_with_trees(automaton):
    """Refuses what is not an automaton, or one for whose arities there are no trees."""
    require(is_automaton(automaton) and 0 in automaton[0], "automaton")


def require_sketch(automaton, sketch):
    """Refuses what is not an automaton with trees, or not a sketch for it."""
    require_automaton_with_trees(automaton)
    require(is_sketch(automaton, sketch), "sketch")


def holes(automaton, sketch):
    """Returns the tuple of the holes."""
    require_sketch(automaton, sketch)
    return tuple(holes_in(sketch))


def possible_states(automaton, sketch):
    """Returns the possible states."""
    require_sketch(automaton, sketch)
    return states_with(automaton, sketch, reached_states(automaton))


def verdict(automaton, sketch):
    """Returns the verdict."""
    return verdict_on(automaton, possible_states(automaton, sketch))


def matters(automaton, sketch, place):
    """Returns True if the hole at the place matters."""
    require_sketch(automaton, sketch)
    require(is_place(place) and place in holes_in(sketch), "place")
    return matters_at(automaton, sketch, place)
