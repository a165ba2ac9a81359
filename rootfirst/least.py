"""The least table that takes every good tree of an automaton."""

from rootfirst.climbing import is_closed_at
from rootfirst.forms import require
from rootfirst.handing import good_set, handed_sets
from rootfirst.machines import reached_states
from rootfirst.runs import is_automaton


def least_table(automaton):
    """Returns the least table."""
    require(is_automaton(automaton), "automaton")
    sets = _sets_in_order(automaton)
    return (0, tuple([_row(automaton, chosen, sets) for chosen in sets]))


def stands_for(automaton):
    """Returns the tuple of the sets for which the states of the least table stand."""
    require(is_automaton(automaton), "automaton")
    return tuple(_sets_in_order(automaton))


def is_enough(automaton):
    """Returns True if the least table is right."""
    require(is_automaton(automaton), "automaton")
    # It takes just what comes from good trees by exchange at the depth 1.
    return is_closed_at(automaton, 1)


def _sets_for_children(automaton, chosen):
    """Returns for each symbol the tuple of the sets for the children of a node with the set, or None if it fails."""
    states = reached_states(automaton)
    return [
        handed_sets(automaton, symbol, chosen, (states,) * arity)
        for symbol, arity in enumerate(automaton[0])
    ]


def _sets_in_order(automaton):
    """Returns the list of the sets, as they are come to."""
    found = [good_set(automaton)]
    at = 0
    while at < len(found):
        for handed in _sets_for_children(automaton, found[at]):
            if handed is not None:
                found.extend(_new_ones(handed, found))
        at += 1
    return found


def _new_ones(handed, found):
    """Returns the list of the handed sets that are not found yet, each once."""
    fresh = []
    for chosen in handed:
        if chosen not in found and chosen not in fresh:
            fresh.append(chosen)
    return fresh


def _row(automaton, chosen, sets):
    """Returns the row of the state that stands for the set."""
    return tuple([
        None if handed is None else tuple([sets.index(below) for below in handed])
        for handed in _sets_for_children(automaton, chosen)
    ])
