"""The trees of a state, and the good trees, counted and listed in order."""

from rootfirst.forms import MOST_NODES, is_integer, require
from rootfirst.machines import first_trees, state_of
from rootfirst.nodes import size_of
from rootfirst.ranking import good_counts, nth_of_size, number_in_size, tree_counts
from rootfirst.runs import is_automaton, require_automaton_and_state, require_automaton_and_tree

GREATEST_INDEX = 1000000000
MOST_LISTED = 20


def _require_size(size):
    """Refuses what is not the size of a tree."""
    require(is_integer(size, 1, MOST_NODES), "size")


def _require_index(automaton, index):
    """Refuses what is not an automaton, or not an index."""
    require(is_automaton(automaton), "automaton")
    require(is_integer(index, 0, GREATEST_INDEX), "index")


def first_tree(automaton, state):
    """Returns the first tree of the state, or None if it is not reached."""
    require_automaton_and_state(automaton, state)
    return first_trees(automaton)[state]


def count_state(automaton, state, size):
    """Returns the number of the trees of the size with the state."""
    require_automaton_and_state(automaton, state)
    _require_size(size)
    return tree_counts(automaton)[size][state]


def count_good(automaton, size):
    """Returns the number of the good trees of the size."""
    require(is_automaton(automaton), "automaton")
    _require_size(size)
    return good_counts(automaton, tree_counts(automaton))[size]


def _listed(automaton, index, many):
    """Returns the list of so many good trees from the index on, or of those that there are."""
    counts = tree_counts(automaton)
    found = []
    for size, ways in enumerate(good_counts(automaton, counts)):
        while index < ways and len(found) < many:
            found.append(nth_of_size(automaton, counts, size, index))
            index += 1
        # From here on the index counts from the first tree of the next size.
        index -= ways
    return found


def nth_good(automaton, index):
    """Returns the good tree with the index, or None if there are not so many."""
    _require_index(automaton, index)
    found = _listed(automaton, index, 1)
    return found[0] if found else None


def index_of_good(automaton, tree):
    """Returns the index of the tree, or None if it is bad."""
    require_automaton_and_tree(automaton, tree)
    if not automaton[1][state_of(automaton, tree)]:
        return None
    counts = tree_counts(automaton)
    smaller = sum(good_counts(automaton, counts)[:size_of(tree)])
    return smaller + number_in_size(automaton, counts, tree)


def good_from(automaton, index, many):
    """Returns the list of so many good trees from the one with the index on, or of those that there are."""
    _require_index(automaton, index)
    require(is_integer(many, 0, MOST_LISTED), "many")
    return _listed(automaton, index, many)
