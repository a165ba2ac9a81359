"""What can be told of trees whose form is known to be right."""

from rootfirst.errors import TooLarge
from rootfirst.forms import MOST_NODES


def size_of(tree):
    """Returns the number of the nodes."""
    return 1 + sum([size_of(child) for child in tree[1:]])


def bounded(tree):
    """Returns the tree, and refuses one with too many nodes."""
    if size_of(tree) > MOST_NODES:
        raise TooLarge("tree")
    return tree


def height_of(tree):
    """Returns the number of the levels."""
    return 1 + max([height_of(child) for child in tree[1:]], default=0)


def places_of(tree):
    """Returns the list of the places, in order."""
    found = [()]
    for number, child in enumerate(tree[1:]):
        found.extend([(number,) + place for place in places_of(child)])
    return found


def order_key(tree):
    """Returns what puts trees in order: the size, and then the tree itself.

    Of two trees the tuples differ first at the first node at which the symbols
    do, each node before its children, since the symbol tells how many follow.
    """
    return (size_of(tree), tree)


def part_at(tree, place):
    """Returns the part at the place, or None if the tree has not this place."""
    for number in place:
        if number + 1 >= len(tree):
            return None
        tree = tree[number + 1]
    return tree


def replaced(tree, place, other):
    """Returns the tree with the other one at a place that the tree has."""
    if place == ():
        return other
    at = place[0] + 1
    return tree[:at] + (replaced(tree[at], place[1:], other),) + tree[at + 1:]


def depth_alike(first, second):
    """Returns the greatest depth to which both trees are equal, or None if they are the same."""
    if first[0] != second[0]:
        return 0
    depths = [depth_alike(one, other) for one, other in zip(first[1:], second[1:])]
    told = [depth for depth in depths if depth is not None]
    return 1 + min(told) if told else None


def are_alike(first, second, depth):
    """Returns True if both trees are equal to the depth."""
    greatest = depth_alike(first, second)
    return greatest is None or depth <= greatest


def are_alike_along(first, second, place, depth):
    """Returns True if both trees, which have the place, are equal to the depth along the path to it."""
    beginnings = [place[:many] for many in range(len(place))]
    return all([are_alike(part_at(first, at), part_at(second, at), depth) for at in beginnings])
