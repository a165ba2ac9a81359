"""Tables that judge trees from the root on, with a state handed to each child."""

from rootfirst.forms import MOST_STATES, are_integers, is_integer, is_tuple, require
from rootfirst.taking import takers_behind
from rootfirst.trees import is_arities, is_tree


def is_table(arities, value):
    """Returns True if the value is a table for the arities."""
    require(is_arities(arities), "arities")
    if not is_tuple(value, 2, 2) or not is_tuple(value[1], 1, MOST_STATES):
        return False
    start, rows = value
    return is_integer(start, 0, len(rows) - 1) and all([_is_row(arities, row, len(rows)) for row in rows])


def _is_row(arities, value, many):
    """Returns True if the value is a row of a table with so many states."""
    if not is_tuple(value, len(arities), len(arities)):
        return False
    return all([_is_entry(entry, arity, many) for entry, arity in zip(value, arities)])


def _is_entry(value, arity, many):
    """Returns True if the value fails, or has a state for each child."""
    return value is None or (is_tuple(value, arity, arity) and are_integers(value, 0, many - 1))


def _require_table_and_tree(arities, table, tree):
    """Refuses the arities, the table or the tree."""
    require(is_table(arities, table), "table")
    require(is_tree(arities, tree), "tree")


def run(arities, table, tree):
    """Returns whether the table takes the tree, the first place that fails or None, and the visited nodes."""
    _require_table_and_tree(arities, table, tree)
    visits = _visits(table[1], tree, table[0], ())
    failing = [place for place, state, fails in visits if fails]
    visited = tuple([(place, state) for place, state, fails in visits])
    return (not failing, failing[0] if failing else None, visited)


def _visits(rows, tree, state, place):
    """Returns the list of (place, state, whether it fails) of the nodes visited from this one on."""
    entry = rows[state][tree[0]]
    found = [(place, state, entry is None)]
    if entry is None:
        return found
    for number, child in enumerate(tree[1:]):
        found.extend(_visits(rows, child, entry[number], place + (number,)))
    return found


def takers(arities, table, tree):
    """Returns the set of the states from which the table takes the tree."""
    _require_table_and_tree(arities, table, tree)
    return _takers(table[1], tree)


def _takers(rows, tree):
    """Returns the set of the states whose rows take the tree."""
    below = [_takers(rows, child) for child in tree[1:]]
    return takers_behind([row[tree[0]] for row in rows], below)


def received(arities, table):
    """Returns the set of the received states."""
    require(is_table(arities, table), "table")
    if 0 not in arities:
        return ()
    start, rows = table
    found = [start]
    many = 0
    while many < len(found):
        many = len(found)
        handed = [child for state in found for entry in rows[state] if entry is not None for child in entry]
        found = sorted(set(found + handed))
    return tuple(found)
