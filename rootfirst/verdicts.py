"""Evidence for the verdict on a sketch, and its first completions."""

from rootfirst.completing import first_completion, is_completion, states_with, verdict_on
from rootfirst.forms import is_state_set, is_tuple
from rootfirst.machines import is_closed_set, reached_states, state_of
from rootfirst.nodes import bounded
from rootfirst.sketches import require_sketch, verdict
from rootfirst.trees import is_tree


def first_good(automaton, sketch):
    """Returns the first good completion, or None if there is none."""
    require_sketch(automaton, sketch)
    return _first(automaton, sketch, True)


def first_bad(automaton, sketch):
    """Returns the first bad completion, or None if there is none."""
    require_sketch(automaton, sketch)
    return _first(automaton, sketch, False)


def _first(automaton, sketch, flag):
    """Returns the first completion that is good or bad, as the flag says, or None if there is none."""
    tree = first_completion(automaton, sketch, flag)
    return None if tree is None else bounded(tree)


def verdict_evidence(automaton, sketch):
    """Returns evidence for the verdict."""
    word = verdict(automaton, sketch)
    if word == "open":
        return (word, _first(automaton, sketch, True), _first(automaton, sketch, False))
    return (word, reached_states(automaton))


def accepts_verdict(automaton, sketch, value):
    """Returns True if the value is evidence for the verdict."""
    require_sketch(automaton, sketch)
    if is_tuple(value, 2, 2) and value[0] in ("good", "bad"):
        return _tells_all(automaton, sketch, value[0], value[1])
    if is_tuple(value, 3, 3) and value[0] == "open":
        return _tells_both(automaton, sketch, value[1], value[2])
    return False


def _tells_all(automaton, sketch, word, states):
    """Returns True if the states are evidence that all completions, or none, are good."""
    if not is_state_set(states, len(automaton[1])) or not is_closed_set(automaton, states):
        return False
    return verdict_on(automaton, states_with(automaton, sketch, states)) == word


def _tells_both(automaton, sketch, one, other):
    """Returns True if the items are a good and a bad completion."""
    for tree, flag in ((one, True), (other, False)):
        if not is_tree(automaton[0], tree) or not is_completion(sketch, tree):
            return False
        if automaton[1][state_of(automaton, tree)] != flag:
            return False
    return True
