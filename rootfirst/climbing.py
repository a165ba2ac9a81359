"""Triples of states of two trees and of their graft, and the climbs that lead from one to another."""

from rootfirst.layers import first_layers


def climbs_with(automaton, layer):
    """Returns the list of all climbs (symbol, child, pair in the other child or None) with pairs of the layer."""
    found = []
    for symbol, arity in enumerate(automaton[0]):
        if arity == 1:
            found.append((symbol, 0, None))
        if arity == 2:
            found.extend([(symbol, child, pair) for child in range(2) for pair in layer])
    return found


def climbed(automaton, triple, climb):
    """Returns the triple that comes from the triple by the climb."""
    base, other, grafted = triple
    symbol, child, beside = climb
    entry = automaton[2][symbol]
    if beside is None:
        return (entry[base], entry[other], entry[grafted])
    # The graft has what stands beside in the first tree.
    near, far = beside
    if child == 0:
        return (entry[base][near], entry[other][far], entry[grafted][near])
    return (entry[near][base], entry[far][other], entry[near][grafted])


def rooted(layer):
    """Returns the list of the triples of the pairs, with the root as the place."""
    return [(base, other, other) for base, other in layer]


def met_triples(automaton, layer):
    """Returns the ascending tuple of the triples that are met, if the layer has the pairs of parts beside."""
    climbs = climbs_with(automaton, layer)
    known = {}
    waiting = rooted(layer)
    while waiting:
        triple = waiting.pop()
        if triple not in known:
            known[triple] = True
            waiting.extend([climbed(automaton, triple, climb) for climb in climbs])
    return tuple(sorted(known))


def is_wrong(automaton, triple):
    """Returns True if the first two states are good, and the third one is not."""
    good = automaton[1]
    return good[triple[0]] and good[triple[1]] and not good[triple[2]]


def has_wrong(automaton, triples):
    """Returns True if one of the triples is wrong."""
    return any([is_wrong(automaton, triple) for triple in triples])


def is_closed_at(automaton, depth):
    """Returns True if the good trees are closed under exchange at the depth, from 1 on."""
    layer = first_layers(automaton, depth)[-1]
    return not has_wrong(automaton, met_triples(automaton, layer))
