"""Evidence that some tree has a state, or that none has it."""

from rootfirst.forms import is_state_set, is_tuple
from rootfirst.machines import first_trees, is_closed_set, reached_states, state_of
from rootfirst.runs import require_automaton_and_state
from rootfirst.trees import is_tree


def state_evidence(automaton, state):
    """Returns accepted evidence about the state, of the word that is right."""
    require_automaton_and_state(automaton, state)
    tree = first_trees(automaton)[state]
    if tree is None:
        return ("none", reached_states(automaton))
    return ("some", tree)


def accepts_state(automaton, state, value):
    """Returns True if the value is evidence about the state, of either word."""
    require_automaton_and_state(automaton, state)
    if not is_tuple(value, 2, 2):
        return False
    word, told = value
    if word == "some":
        return is_tree(automaton[0], told) and state_of(automaton, told) == state
    if word == "none":
        return _keeps_out(automaton, state, told)
    return False


def _keeps_out(automaton, state, value):
    """Returns True if the value is a closed set without the state."""
    if not is_state_set(value, len(automaton[1])):
        return False
    return state not in value and is_closed_set(automaton, value)
