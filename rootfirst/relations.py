"""The pairs of states that two great automata for the same arities give to trees."""

from rootfirst.errors import TooLarge
from rootfirst.growing import come_to, first_tree_with, is_closed_under
from rootfirst.machines import lead


def pair_behind(first, second, symbol, chosen):
    """Returns the pair of the states to which the symbol leads from the chosen pairs."""
    one = lead(first[2][symbol], [pair[0] for pair in chosen])
    other = lead(second[2][symbol], [pair[1] for pair in chosen])
    return (one, other)


def reached_pairs(first, second):
    """Returns the ascending list of the pairs of states of all trees."""
    return come_to(first[0], lambda symbol, chosen: pair_behind(first, second, symbol, chosen))


def is_closed_relation(first, second, relation):
    """Returns True if the pairs that come from pairs of the relation are in it."""
    return is_closed_under(first[0], lambda symbol, chosen: pair_behind(first, second, symbol, chosen), relation)


def are_same_in(first, second, relation):
    """Returns True if in each pair of the relation both states are good or none is."""
    return all([first[1][one] == second[1][other] for one, other in relation])


def first_apart(first, second):
    """Returns the first tree that is good for exactly one of both, or None if there is none."""
    if are_same_in(first, second, reached_pairs(first, second)):
        return None
    tree = first_tree_with(
        first[0],
        lambda symbol, chosen: pair_behind(first, second, symbol, chosen),
        lambda pair: first[1][pair[0]] != second[1][pair[1]],
    )
    if tree is None:
        raise TooLarge("tree")
    return tree
