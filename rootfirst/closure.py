"""What must be let in besides the good trees, if only so many levels are seen."""

from rootfirst.climbing import is_closed_at
from rootfirst.errors import TooLarge
from rootfirst.forms import MOST_LEVELS, require
from rootfirst.growing import come_to, first_tree_with
from rootfirst.handing import good_set, handed_sets, led_to
from rootfirst.machines import choices, lead, reached_states
from rootfirst.runs import require_automaton_and_depth
from rootfirst.trees import is_tree

MOST_LEVELS_OF_EXTRA = 2


def sets_along(automaton, depth, tree):
    """Returns the tuple of pairs of each place of a node that gets a set, and this set."""
    return tuple([(place, goal) for place, goal, fails in _checked_visits(automaton, depth, tree)])


def is_let_in(automaton, depth, tree):
    """Returns True if the tree is let in at the depth."""
    return not any([fails for place, goal, fails in _checked_visits(automaton, depth, tree)])


def _checked_visits(automaton, depth, tree):
    """Returns the list of (place, set, whether it fails) of the nodes that get a set."""
    require_automaton_and_depth(automaton, depth, 1, MOST_LEVELS)
    require(is_tree(automaton[0], tree), "tree")
    return _visits(automaton, depth, tree, good_set(automaton), ())


def _visits(automaton, depth, tree, goal, place):
    """Returns the list of (place, set, whether it fails) of the nodes that get a set, from this one on."""
    seen = tuple([_seen_states(automaton, depth - 1, child) for child in tree[1:]])
    handed = handed_sets(automaton, tree[0], goal, seen)
    found = [(place, goal, handed is None)]
    if handed is None:
        return found
    for number, child in enumerate(tree[1:]):
        found.extend(_visits(automaton, depth, child, handed[number], place + (number,)))
    return found


def _seen_states(automaton, depth, tree):
    """Returns the set of the states of the trees that are equal to the tree to the depth."""
    if depth == 0:
        return reached_states(automaton)
    seen = tuple([_seen_states(automaton, depth - 1, child) for child in tree[1:]])
    return led_to(automaton[2][tree[0]], seen)


def first_extra(automaton, depth):
    """Returns the first extra tree, or None if there is none."""
    require_automaton_and_depth(automaton, depth, 1, MOST_LEVELS_OF_EXTRA)
    if is_closed_at(automaton, depth):
        return None
    states = reached_states(automaton)
    views = come_to(automaton[0], lambda symbol, chosen: _view_behind(automaton, states, depth, symbol, chosen))
    rules = _rules(automaton, views)
    tree = first_tree_with(
        automaton[0],
        lambda symbol, chosen: _item_behind(automaton, states, depth, rules, symbol, chosen),
        lambda item: item[2] & 1 == 1 and not automaton[1][item[0]],
    )
    if tree is None:
        raise TooLarge("tree")
    return tree


# To find the first extra tree, each tree has an item (state, view, takers). Its
# view tells for the depths below the one that is looked at the states of the
# trees that are equal to it so deep. Its takers are the numbers, as bits, of the
# sets from which no node of it fails; the set of the root has the number 0.


def _view_behind(automaton, states, depth, symbol, chosen):
    """Returns the view of a tree whose children have the chosen views."""
    entry = automaton[2][symbol]
    deeper = [led_to(entry, tuple([view[at] for view in chosen])) for at in range(depth - 1)]
    return (states,) + tuple(deeper)


def _rules(automaton, views):
    """Returns a dict that has, for each symbol with the deepest views of its children, a list of what is handed.

    In the list stand, by the number of the set of the node, the numbers of the
    sets of its children, or None where it fails.
    """
    cases = [
        (symbol, chosen)
        for symbol, arity in enumerate(automaton[0])
        for chosen in choices(sorted({view[-1] for view in views}), arity)
    ]
    goals = [good_set(automaton)]
    rules = {case: [] for case in cases}
    at = 0
    while at < len(goals):
        for symbol, seen in cases:
            handed = handed_sets(automaton, symbol, goals[at], seen)
            if handed is not None:
                goals.extend([goal for goal in sorted(set(handed)) if goal not in goals])
            rules[(symbol, seen)].append(None if handed is None else [goals.index(goal) for goal in handed])
        at += 1
    return rules


def _item_behind(automaton, states, depth, rules, symbol, chosen):
    """Returns the item of a tree whose children have the chosen items."""
    state = lead(automaton[2][symbol], [item[0] for item in chosen])
    view = _view_behind(automaton, states, depth, symbol, [item[1] for item in chosen])
    handed = rules[(symbol, tuple([item[1][-1] for item in chosen]))]
    takers = sum([1 << number for number, numbers in enumerate(handed) if _all_take(numbers, chosen)])
    return (state, view, takers)


def _all_take(numbers, chosen):
    """Returns True if the node does not fail, and each child is taken from the set with its number."""
    return numbers is not None and all([item[2] >> number & 1 == 1 for number, item in zip(numbers, chosen)])
