"""How what is let in comes from good trees, graft by graft."""

from rootfirst.closure import is_let_in
from rootfirst.completing import first_completion
from rootfirst.forms import MOST_LEVELS, MOST_NODES, is_tuple, require
from rootfirst.machines import state_of
from rootfirst.nodes import are_alike, are_alike_along, bounded, part_at, places_of, replaced, size_of
from rootfirst.runs import require_automaton_and_depth
from rootfirst.trees import is_place, is_tree

MOST_PAIRS = 20


def told_derivation(automaton, depth, tree):
    """Returns the told derivation of the tree, or None if it is not let in."""
    if not is_let_in(automaton, depth, tree):
        return None
    made = _first_good(automaton, depth, tree, ())
    told = [((), made)]
    for place in places_of(tree):
        if not are_alike(part_at(made, place), part_at(tree, place), depth):
            other = _first_good(automaton, depth, tree, place)
            made = bounded(_grafted(made, other, place))
            told.append((place, other))
    return tuple(told)


def derives(automaton, depth, tree, value):
    """Returns True if the value is a derivation that derives the tree."""
    require_automaton_and_depth(automaton, depth, 1, MOST_LEVELS)
    require(is_tree(automaton[0], tree), "tree")
    if not is_tuple(value, 1, MOST_PAIRS) or not all([_is_good_at_place(automaton, pair) for pair in value]):
        return False
    if value[0][0] != ():
        return False
    made = value[0][1]
    for place, other in value[1:]:
        if not _can_be_grafted(made, other, place, depth):
            return False
        made = _grafted(made, other, place)
        if size_of(made) > MOST_NODES:
            return False
    return made == tree


def _first_good(automaton, depth, tree, place):
    """Returns the first good tree that looks like the tree on the path to the place and there.

    There is one wherever a tree is let in.
    """
    return bounded(first_completion(automaton, _seen_on_path(tree, place, depth), True))


def _seen_on_path(tree, place, depth):
    """Returns the sketch of what is seen of the tree from the nodes on the path to the place, the last one, too."""
    if place == ():
        return _seen(tree, depth)
    at = place[0] + 1
    children = [_seen(child, depth - 1) for child in tree[1:]]
    children[place[0]] = _seen_on_path(tree[at], place[1:], depth)
    return (tree[0],) + tuple(children)


def _seen(tree, depth):
    """Returns the sketch of the first levels of the tree."""
    if depth == 0:
        return None
    return (tree[0],) + tuple([_seen(child, depth - 1) for child in tree[1:]])


def _grafted(made, other, place):
    """Returns the graft of both at the place, which both have."""
    return replaced(made, place, part_at(other, place))


def _is_good_at_place(automaton, value):
    """Returns True if the value is a pair of a place and a good tree."""
    if not is_tuple(value, 2, 2) or not is_place(value[0]) or not is_tree(automaton[0], value[1]):
        return False
    return automaton[1][state_of(automaton, value[1])]


def _can_be_grafted(made, other, place, depth):
    """Returns True if both have the place, and are equal to the depth along the path to it."""
    if part_at(made, place) is None or part_at(other, place) is None:
        return False
    return are_alike_along(made, other, place, depth)
