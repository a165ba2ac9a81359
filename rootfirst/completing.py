"""Sketches whose form is known to be right: trees in which any parts can be holes, each of them None."""

from rootfirst.handing import led_to
from rootfirst.machines import first_trees, lead, one_of_each, reached_states
from rootfirst.nodes import order_key


def nodes_in(sketch):
    """Returns the number of the nodes, holes counted."""
    return 1 if sketch is None else 1 + sum([nodes_in(child) for child in sketch[1:]])


def holes_in(sketch):
    """Returns the list of the places of the holes, in order."""
    if sketch is None:
        return [()]
    return [(number,) + place for number, child in enumerate(sketch[1:]) for place in holes_in(child)]


def is_completion(sketch, tree):
    """Returns True if the tree is the sketch with trees in its holes."""
    if sketch is None:
        return True
    if sketch[0] != tree[0]:
        return False
    return all([is_completion(part, child) for part, child in zip(sketch[1:], tree[1:])])


def states_with(automaton, sketch, states):
    """Returns the set of the states that the sketch can have, if each hole can have each of these states."""
    if sketch is None:
        return states
    seen = tuple([states_with(automaton, child, states) for child in sketch[1:]])
    return led_to(automaton[2][sketch[0]], seen)


def verdict_on(automaton, states):
    """Returns the verdict if just these states are possible."""
    flags = [automaton[1][state] for state in states]
    if all(flags):
        return "good"
    return "open" if any(flags) else "bad"


def matters_at(automaton, sketch, place):
    """Returns True if the hole at the place matters."""
    good = automaton[1]
    rows = _rows_above(automaton, sketch, place, reached_states(automaton))
    return any([len({good[state] for state in row}) > 1 for row in rows])


def _rows_above(automaton, sketch, place, states):
    """Returns the list of the different rows that the choices for the other holes bring.

    A row has the state of the sketch for each of the states in the hole.
    """
    if place == ():
        return [states]
    at = place[0]
    below = _rows_above(automaton, sketch[at + 1], place[1:], states)
    others = [states_with(automaton, child, states) for number, child in enumerate(sketch[1:]) if number != at]
    entry = automaton[2][sketch[0]]
    return sorted({
        tuple([lead(entry, beside[:at] + (state,) + beside[at:]) for state in row])
        for row in below
        for beside in one_of_each(others)
    })


def first_completion(automaton, sketch, flag):
    """Returns the first tree that is the sketch with trees in its holes, and good or bad as the flag says, or None."""
    keys = _first_keys(automaton, first_trees(automaton), sketch)
    wanted = [key for key, good in zip(keys, automaton[1]) if key is not None and good == flag]
    return min(wanted)[1] if wanted else None


def _first_keys(automaton, firsts, sketch):
    """Returns a list with the order key of the first completion with each state, or None where there is none.

    What stands in a hole, and as a child, is the first one of its state, since
    a lesser part in the same place makes a lesser tree.
    """
    if sketch is None:
        return [None if tree is None else order_key(tree) for tree in firsts]
    below = [_first_keys(automaton, firsts, child) for child in sketch[1:]]
    best = [None for _ in firsts]
    known = [[state for state, key in enumerate(keys) if key is not None] for keys in below]
    for states in one_of_each(known):
        chosen = [keys[state] for keys, state in zip(below, states)]
        size = 1 + sum([key[0] for key in chosen])
        key = (size, (sketch[0],) + tuple([key[1] for key in chosen]))
        state = lead(automaton[2][sketch[0]], states)
        if best[state] is None or key < best[state]:
            best[state] = key
    return best
