"""Sketches whose form is known to be right: trees in which any parts can be holes, each of them None."""

from rootfirst.machines import first_trees, lead, one_of_each
from rootfirst.nodes import order_key


def first_completion(automaton, sketch, flag):
    """Returns the first tree that is the sketch with trees in its holes, and good or bad as the flag says, or None."""
    keys = _first_keys(automaton, first_trees(automaton), sketch)
    wanted = [key for key, good in zip(keys, automaton[1]) if key is not None and good == flag]
    return min(wanted)[1] if wanted else None


def _first_keys(automaton, firsts, sketch):
    """Returns a list with the order key of the first completion with each state, or None where there is none.

    What stands in a hole, and as a child, is the first one of its state, since
    a lesser part in the same place makes a lesser tree.
    """
    if sketch is None:
        return [None if tree is None else order_key(tree) for tree in firsts]
    below = [_first_keys(automaton, firsts, child) for child in sketch[1:]]
    best = [None for _ in firsts]
    known = [[state for state, key in enumerate(keys) if key is not None] for keys in below]
    for states in one_of_each(known):
        chosen = [keys[state] for keys, state in zip(below, states)]
        size = 1 + sum([key[0] for key in chosen])
        key = (size, (sketch[0],) + tuple([key[1] for key in chosen]))
        state = lead(automaton[2][sketch[0]], states)
        if best[state] is None or key < best[state]:
            best[state] = key
    return best
