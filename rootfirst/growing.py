"""What trees have that comes, by a step for each symbol, from what their children have.

`behind(symbol, chosen)` tells what a tree has, if its children have what is
chosen. It is an integer, or a tuple of such, and so can be the key of a dict.
"""

from rootfirst.forms import MOST_NODES
from rootfirst.machines import children_by_size, choices


def come_to(arities, behind):
    """Returns the ascending list of all that trees have."""
    found = []
    known = {}
    waiting = [behind(symbol, ()) for symbol, arity in enumerate(arities) if arity == 0]
    while waiting:
        item = waiting.pop()
        if item not in known:
            known[item] = True
            found.append(item)
            waiting.extend(_above_last(arities, behind, found))
    return sorted(found)


def _above_last(arities, behind, found):
    """Returns the list of what comes from children of which one at least has what was found last."""
    last = found[-1]
    come = []
    for symbol, arity in enumerate(arities):
        if arity == 1:
            come.append(behind(symbol, (last,)))
        if arity == 2:
            come.extend([behind(symbol, (last, item)) for item in found])
            come.extend([behind(symbol, (item, last)) for item in found[:-1]])
    return come


def is_closed_under(arities, behind, rows):
    """Returns True if all that comes from children that have some of the rows is one of the rows."""
    known = {row: True for row in rows}
    return all([
        behind(symbol, chosen) in known
        for symbol, arity in enumerate(arities)
        for chosen in choices(rows, arity)
    ])


def first_tree_with(arities, behind, is_wanted):
    """Returns the first tree of those that have what is wanted, or None if it has more than 15 nodes or is none.

    The children of a first tree are first trees of what they have, so that it
    is enough to join first trees, size by size.
    """
    known = {}
    by_size = [[]]
    for size in range(1, MOST_NODES + 1):
        firsts = _firsts_of_size(arities, behind, by_size, size)
        row = [(item, tree) for item, tree in firsts.items() if item not in known]
        wanted = [tree for item, tree in row if is_wanted(item)]
        if wanted:
            return min(wanted)
        for item, _ in row:
            known[item] = True
        by_size.append(row)
    return None


def _firsts_of_size(arities, behind, by_size, size):
    """Returns a dict with the first joined tree of the size for each item that one of them has."""
    firsts = {}
    for symbol, arity in enumerate(arities):
        for chosen in children_by_size(by_size, arity, size - 1):
            item = behind(symbol, tuple([one for one, _ in chosen]))
            tree = (symbol,) + tuple([child for _, child in chosen])
            if item not in firsts or tree < firsts[item]:
                firsts[item] = tree
    return firsts
