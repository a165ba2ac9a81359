"""Whether the good trees are closed under exchange at a depth, and counterexamples."""

from rootfirst.climbing import is_closed_at
from rootfirst.couples import sizes_in_order, trees_by_size
from rootfirst.forms import MOST_LEVELS, MOST_SEARCHED, is_integer, is_tuple, require
from rootfirst.machines import state_of
from rootfirst.nodes import are_alike, are_alike_along, part_at, replaced
from rootfirst.runs import require_automaton_and_depth
from rootfirst.trees import is_place, is_tree


def is_closed(automaton, depth):
    """Returns True if the good trees are closed under exchange at the depth."""
    require_automaton_and_depth(automaton, depth, 1, MOST_LEVELS)
    return is_closed_at(automaton, depth)


def counterexample(automaton, depth, size):
    """Returns the first counterexample with trees of at most so many nodes, or None if there is none."""
    require_automaton_and_depth(automaton, depth, 1, MOST_LEVELS)
    require(is_integer(size, 1, MOST_SEARCHED), "size")
    if is_closed_at(automaton, depth):
        return None
    rows = [[tree for tree in row if _is_good(automaton, tree)] for row in trees_by_size(automaton[0], size)]
    for near, far in sizes_in_order(size):
        for base in rows[near]:
            for other in rows[far]:
                place = _first_wrong_place(automaton, depth, base, other)
                if place is not None:
                    return (base, other, place)
    return None


def _is_good(automaton, tree):
    return automaton[1][state_of(automaton, tree)]


def _is_graft_good(automaton, base, other, place):
    """Returns True if the graft of both at the place, which both have, is good."""
    return _is_good(automaton, replaced(base, place, part_at(other, place)))


def _first_wrong_place(automaton, depth, base, other):
    """Returns the first place at which the graft of the two good trees tells against the depth, or None."""
    for place in _alike_places(base, other, depth):
        if not _is_graft_good(automaton, base, other, place):
            return place
    return None


def _alike_places(base, other, depth):
    """Returns the list of the places along the path to which both are equal to the depth, in order."""
    found = [()]
    if are_alike(base, other, depth):
        for number in range(len(base) - 1):
            below = _alike_places(base[number + 1], other[number + 1], depth)
            found.extend([(number,) + place for place in below])
    return found


def accepts_counterexample(automaton, depth, value):
    """Returns True if the value is a counterexample."""
    require_automaton_and_depth(automaton, depth, 1, MOST_LEVELS)
    if not is_tuple(value, 3, 3):
        return False
    base, other, place = value
    if not is_tree(automaton[0], base) or not is_tree(automaton[0], other) or not is_place(place):
        return False
    if part_at(base, place) is None or part_at(other, place) is None:
        return False
    if not _is_good(automaton, base) or not _is_good(automaton, other):
        return False
    return are_alike_along(base, other, place, depth) and not _is_graft_good(automaton, base, other, place)
