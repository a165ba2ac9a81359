"""Evidence that the good trees are closed under exchange at a depth."""

from rootfirst.climbing import climbed, climbs_with, has_wrong, met_triples, rooted
from rootfirst.forms import MOST_LEVELS, are_state_tuples, is_state_set, is_tuple
from rootfirst.layers import all_pairs, first_layers, made_pairs
from rootfirst.machines import is_closed_set, reached_states
from rootfirst.runs import require_automaton_and_depth


def closed_evidence(automaton, depth):
    """Returns the told evidence that the good trees are closed at the depth, or None if they are not."""
    require_automaton_and_depth(automaton, depth, 1, MOST_LEVELS)
    return told_seal(automaton, depth)


def accepts_closed(automaton, depth, value):
    """Returns True if the judge accepts the value as evidence that the good trees are closed at the depth."""
    require_automaton_and_depth(automaton, depth, 1, MOST_LEVELS)
    return is_seal(automaton, depth, value)


def told_seal(automaton, depth):
    """Returns the told evidence for any depth from 1 on, or None if the good trees are not closed at it."""
    layers = first_layers(automaton, depth)
    triples = met_triples(automaton, layers[-1])
    if has_wrong(automaton, triples):
        return None
    return (reached_states(automaton), tuple(layers), triples)


def is_seal(automaton, depth, value):
    """Returns True if the judge accepts the value as evidence for any depth from 1 on."""
    if not is_tuple(value, 3, 3):
        return False
    states, layers, triples = value
    many = len(automaton[1])
    if not is_state_set(states, many) or not is_tuple(layers, depth, depth):
        return False
    if not all([are_state_tuples(layer, 2, many) for layer in layers]) or not are_state_tuples(triples, 3, many):
        return False
    if not is_closed_set(automaton, states) or not _have_all_pairs(automaton, states, layers):
        return False
    return _have_all_climbed(automaton, layers[-1], triples) and not has_wrong(automaton, triples)


def _have_all_pairs(automaton, states, layers):
    """Returns True if the first layer has all pairs of the states, and each further one all that are made."""
    needed = [all_pairs(states)] + [made_pairs(automaton, layer) for layer in layers[:-1]]
    return all([pair in layer for layer, wanted in zip(layers, needed) for pair in wanted])


def _have_all_climbed(automaton, layer, triples):
    """Returns True if the triples have those with the root as the place, and all that come by a climb."""
    known = {triple: True for triple in triples}
    climbs = climbs_with(automaton, layer)
    climbed_to = [climbed(automaton, triple, climb) for triple in triples for climb in climbs]
    return all([triple in known for triple in rooted(layer) + climbed_to])
