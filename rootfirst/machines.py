"""What can be told of automata whose form is known to be right.

All of it holds for great automata, too, with as many states as they have.
"""

from rootfirst.forms import MOST_NODES


def lead(entry, states):
    """Returns the state to which the entry of a symbol leads from the states of the children."""
    for state in states:
        entry = entry[state]
    return entry


def choices(rows, many):
    """Returns the list of the tuples of so many of the items, in the order of the items."""
    found = [()]
    for _ in range(many):
        found = [choice + (row,) for choice in found for row in rows]
    return found


def state_of(automaton, tree):
    """Returns the state of the tree."""
    states = [state_of(automaton, child) for child in tree[1:]]
    return lead(automaton[2][tree[0]], states)


def reached_states(automaton):
    """Returns the set of the reached states."""
    arities, good, steps = automaton
    found = []
    many = -1
    while many < len(found):
        many = len(found)
        for symbol, arity in enumerate(arities):
            for states in choices(found, arity):
                state = lead(steps[symbol], states)
                if state not in found:
                    found = found + [state]
    return tuple(sorted(found))


def first_trees(automaton):
    """Returns a list with the first tree of each state, or None where it has more than 15 nodes or is none.

    The children of a first tree are first trees of their states, so that it is
    enough to join first trees until none of them gets better.
    """
    best = [None for _ in automaton[1]]
    better = _with_one_more_level(automaton, best)
    while better != best:
        best = better
        better = _with_one_more_level(automaton, best)
    return [found if found is None else found[2] for found in best]


def _with_one_more_level(automaton, best):
    """Returns the best known (size, symbols, tree) of each state, those joined from known ones among them."""
    arities, good, steps = automaton
    better = list(best)
    known = [state for state in range(len(good)) if best[state] is not None]
    for symbol, arity in enumerate(arities):
        for states in choices(known, arity):
            state = lead(steps[symbol], states)
            found = _joined(symbol, [best[child] for child in states])
            if found[0] <= MOST_NODES and (better[state] is None or found < better[state]):
                better[state] = found
    return better


def _joined(symbol, children):
    """Returns the size, the symbols and the tree with these children below the symbol."""
    size = 1
    symbols = (symbol,)
    tree = (symbol,)
    for child in children:
        size += child[0]
        symbols = symbols + child[1]
        tree = tree + (child[2],)
    return (size, symbols, tree)
