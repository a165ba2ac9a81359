"""The texts of trees and automata."""

from rootfirst.forms import require
from rootfirst.machines import choices, lead
from rootfirst.runs import is_automaton
from rootfirst.scanning import LETTERS
from rootfirst.trees import is_arities, is_tree


def tree_text(arities, tree):
    """Returns the text of a tree."""
    require(is_arities(arities), "arities")
    require(is_tree(arities, tree), "tree")
    return _node_text(tree)


def automaton_text(automaton):
    """Returns the text of an automaton."""
    require(is_automaton(automaton), "automaton")
    arities, good, steps = automaton
    all_states = list(range(len(good)))
    told = [
        _step_text(symbol, states, lead(steps[symbol], states))
        for symbol, arity in enumerate(arities)
        for states in choices(all_states, arity)
    ]
    chosen = [f" {state}" for state in all_states if good[state]]
    return f"{len(good)}: " + "; ".join(told) + " |" + "".join(chosen)


def _node_text(tree):
    """Returns the text of a tree whose form is right."""
    return _symbol_text(tree[0], [_node_text(child) for child in tree[1:]])


def _step_text(symbol, states, goal):
    """Returns the text of the step from these states of the children."""
    named = _symbol_text(symbol, [str(state) for state in states])
    return f"{named} = {goal}"


def _symbol_text(symbol, inside):
    """Returns the letter of the symbol, and in parentheses the texts that stand inside, if there are any."""
    letter = LETTERS[symbol]
    if not inside:
        return letter
    joined = ", ".join(inside)
    return f"{letter}({joined})"
