"""Arities, trees, their places and parts, and the graft of two trees."""

from rootfirst.errors import NotPossible
from rootfirst.forms import MOST_CHILDREN, MOST_SYMBOLS, are_integers, is_integer, is_tree_form, is_tuple, require
from rootfirst.nodes import (
    are_alike, are_alike_along, bounded, depth_alike, height_of, order_key, part_at, places_of, replaced, size_of,
)

LONGEST_PLACE = 14
GREATEST_DEPTH = 15


def is_arities(value):
    """Returns True if the value is arities."""
    return is_tuple(value, 1, MOST_SYMBOLS) and are_integers(value, 0, MOST_CHILDREN)


def is_tree(arities, value):
    """Returns True if the value is a tree for the arities, which are not checked."""
    return is_tree_form(arities, value, False)


def is_place(value):
    """Returns True if the value is a place."""
    return is_tuple(value, 0, LONGEST_PLACE) and are_integers(value, 0, MOST_CHILDREN - 1)


def _require_tree(arities, tree, name):
    """Refuses the argument of this name, or the arities ahead of it."""
    require(is_arities(arities), "arities")
    require(is_tree(arities, tree), name)


def _require_two(arities, first, second):
    """Refuses the arities, or the first or the second tree."""
    _require_tree(arities, first, "first")
    require(is_tree(arities, second), "second")


def _require_had(trees, place):
    """Refuses a place that some of the trees has not."""
    for tree in trees:
        if part_at(tree, place) is None:
            raise NotPossible("place")


def sizes(arities, tree):
    """Returns the pair of the size and the height."""
    _require_tree(arities, tree, "tree")
    return (size_of(tree), height_of(tree))


def places(arities, tree):
    """Returns the list of the places, in order."""
    _require_tree(arities, tree, "tree")
    return places_of(tree)


def part(arities, tree, place):
    """Returns the part at the place, or None if the tree has not this place."""
    _require_tree(arities, tree, "tree")
    require(is_place(place), "place")
    return part_at(tree, place)


def put(arities, tree, place, other):
    """Returns the tree with the other one at the place."""
    _require_tree(arities, tree, "tree")
    require(is_place(place), "place")
    require(is_tree(arities, other), "other")
    _require_had((tree,), place)
    return bounded(replaced(tree, place, other))


def is_before(arities, first, second):
    """Returns True if the first tree comes before the second one."""
    _require_two(arities, first, second)
    return order_key(first) < order_key(second)


def are_equal_to(arities, first, second, depth):
    """Returns True if both trees are equal to the depth."""
    _require_two(arities, first, second)
    require(is_integer(depth, 0, GREATEST_DEPTH), "depth")
    return are_alike(first, second, depth)


def equal_depth(arities, first, second):
    """Returns the greatest depth to which both trees are equal, or None if they are the same."""
    _require_two(arities, first, second)
    return depth_alike(first, second)


def are_equal_along(arities, first, second, place, depth):
    """Returns True if both trees are equal to the depth along the path to the place."""
    _require_two(arities, first, second)
    require(is_place(place), "place")
    require(is_integer(depth, 0, GREATEST_DEPTH), "depth")
    _require_had((first, second), place)
    return are_alike_along(first, second, place, depth)


def graft(arities, first, second, place):
    """Returns the first tree with the part of the second one put at the place."""
    _require_two(arities, first, second)
    require(is_place(place), "place")
    _require_had((first, second), place)
    return bounded(replaced(first, place, part_at(second, place)))
