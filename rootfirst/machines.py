"""What can be told of automata whose form is known to be right.

All of it holds for great automata, too, with as many states as they have.
"""

from rootfirst.forms import MOST_NODES


def lead(entry, states):
    """Returns the state to which the entry of a symbol leads from the states of the children."""
    for state in states:
        entry = entry[state]
    return entry


def choices(rows, many):
    """Returns the list of the tuples of so many of the items, in the order of the items."""
    return one_of_each([rows for _ in range(many)])


def one_of_each(lists):
    """Returns the list of the tuples with an item of each of the lists, in the order of the items."""
    found = [()]
    for rows in lists:
        found = [choice + (row,) for choice in found for row in rows]
    return found


def children_by_size(by_size, many, nodes):
    """Returns the list of the choices of so many items with so many nodes in all, where `by_size` has a list of
    items for each size from 0 on."""
    if many == 0:
        return [()] if nodes == 0 else []
    return [
        (child,) + rest
        for size in range(1, nodes + 1)
        for rest in children_by_size(by_size, many - 1, nodes - size)
        for child in by_size[size]
    ]


def state_of(automaton, tree):
    """Returns the state of the tree."""
    states = [state_of(automaton, child) for child in tree[1:]]
    return lead(automaton[2][tree[0]], states)


def reached_states(automaton):
    """Returns the set of the reached states."""
    return tuple(sorted(reached_in_order(automaton)))


def reached_in_order(automaton):
    """Returns the list of the reached states, each behind those from which some symbol leads to it."""
    arities, _, steps = automaton
    found = []
    many = -1
    while many < len(found):
        many = len(found)
        for symbol, arity in enumerate(arities):
            for states in choices(found, arity):
                state = lead(steps[symbol], states)
                if state not in found:
                    found = found + [state]
    return found


def is_closed_set(automaton, chosen):
    """Returns True if every step from the chosen states leads to one of them."""
    arities, _, steps = automaton
    return all([
        lead(steps[symbol], states) in chosen
        for symbol, arity in enumerate(arities)
        for states in choices(chosen, arity)
    ])


def first_trees(automaton):
    """Returns a list with the first tree of each state, or None where it has more than 15 nodes or is none.

    The children of a first tree are first trees of their states, so that it is
    enough to join first trees until none of them gets better.
    """
    best = [None for _ in automaton[1]]
    better = _with_one_more_level(automaton, best)
    while better != best:
        best = better
        better = _with_one_more_level(automaton, best)
    return [None if key is None else key[1] for key in best]


def _with_one_more_level(automaton, best):
    """Returns the least order key, (size, tree), known for each state, after one more joining of known ones."""
    arities, good, steps = automaton
    better = list(best)
    known = [state for state in range(len(good)) if best[state] is not None]
    for symbol, arity in enumerate(arities):
        for states in choices(known, arity):
            state = lead(steps[symbol], states)
            tree = (symbol,) + tuple([best[child][1] for child in states])
            key = (1 + sum([best[child][0] for child in states]), tree)
            if key[0] <= MOST_NODES and (better[state] is None or key < better[state]):
                better[state] = key
    return better
