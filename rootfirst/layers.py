"""The pairs of states that trees have which look alike down to a depth."""

from rootfirst.forms import MOST_LEVELS
from rootfirst.machines import choices, reached_states
from rootfirst.relations import pair_behind
from rootfirst.runs import require_automaton_and_depth


def pairs(automaton, depth):
    """Returns the ascending tuple of the pairs at the depth."""
    require_automaton_and_depth(automaton, depth, 0, MOST_LEVELS)
    return first_layers(automaton, depth + 1)[depth]


def all_pairs(states):
    """Returns the tuple of all pairs of the states."""
    return tuple([(one, other) for one in states for other in states])


def made_pairs(automaton, layer):
    """Returns the ascending tuple of the pairs that some symbol makes from pairs of the layer."""
    return tuple(sorted({
        pair_behind(automaton, automaton, symbol, chosen)
        for symbol, arity in enumerate(automaton[0])
        for chosen in choices(layer, arity)
    }))


def different_layers(automaton):
    """Returns the list of the pairs at the depths from 0 to the stable one."""
    layers = [all_pairs(reached_states(automaton))]
    deeper = made_pairs(automaton, layers[-1])
    while deeper != layers[-1]:
        layers.append(deeper)
        deeper = made_pairs(automaton, deeper)
    return layers


def first_layers(automaton, many):
    """Returns the list of the pairs at so many depths, from 0 on."""
    layers = different_layers(automaton)
    return [layers[min(depth, len(layers) - 1)] for depth in range(many)]
