"""Evidence that some look-ahead is enough, or that none is."""

from rootfirst.climbing import climbed, climbs_with, is_wrong, rooted
from rootfirst.forms import MOST_STATES, are_integers, are_state_tuples, is_integer, is_tuple, require
from rootfirst.layers import different_layers, made_pairs
from rootfirst.lookahead import look_ahead
from rootfirst.machines import choices, lead, reached_in_order
from rootfirst.runs import is_automaton
from rootfirst.sealing import is_seal, told_seal

GREATEST_LOOK = 17
MOST_CLIMBS = 64


def look_evidence(automaton):
    """Returns accepted evidence of the word that is right."""
    depth = look_ahead(automaton)
    if depth is not None:
        return ("enough", depth, told_seal(automaton, depth))
    standing = different_layers(automaton)[-1]
    start, climbs = _shortest_way(automaton, standing)
    return ("never", tuple(reached_in_order(automaton)), standing, start, climbs)


def _shortest_way(automaton, standing):
    """Returns a pair and the shortest tuple of climbs that lead from it to a wrong triple, which must be met."""
    climbs = climbs_with(automaton, standing)
    waiting = [(triple, triple[:2], ()) for triple in rooted(standing)]
    known = {triple: True for triple in rooted(standing)}
    triple, start, way = waiting.pop(0)
    while not is_wrong(automaton, triple):
        for climb in climbs:
            come = climbed(automaton, triple, climb)
            if come not in known:
                known[come] = True
                waiting.append((come, start, way + (climb,)))
        triple, start, way = waiting.pop(0)
    return (start, way)


def accepts_look(automaton, value):
    """Returns True if the judge accepts the value as evidence of either word."""
    require(is_automaton(automaton), "automaton")
    if is_tuple(value, 3, 3) and value[0] == "enough":
        return is_integer(value[1], 1, GREATEST_LOOK) and is_seal(automaton, value[1], value[2])
    if is_tuple(value, 5, 5) and value[0] == "never":
        return _is_never_told(automaton, value[1], value[2], value[3], value[4])
    return False


def _is_never_told(automaton, order, standing, start, climbs):
    """Returns True if the items are evidence that no look-ahead is enough."""
    if not _is_order(automaton, order) or not _is_standing(automaton, order, standing):
        return False
    if not _is_pair_of(standing, start) or not is_tuple(climbs, 0, MOST_CLIMBS):
        return False
    if not all([_is_climb(automaton, standing, climb) for climb in climbs]):
        return False
    triple = (start[0], start[1], start[1])
    for climb in climbs:
        triple = climbed(automaton, triple, climb)
    return is_wrong(automaton, triple)


def _is_order(automaton, value):
    """Returns True if the value has different states, to each of which some symbol leads from those ahead of it."""
    many = len(automaton[1])
    if not is_tuple(value, 0, many) or not are_integers(value, 0, many - 1) or len(set(value)) != len(value):
        return False
    return all([_is_led_to(automaton, value[:at], state) for at, state in enumerate(value)])


def _is_led_to(automaton, ahead, goal):
    """Returns True if some symbol leads from states ahead to the goal."""
    return any([
        lead(automaton[2][symbol], states) == goal
        for symbol, arity in enumerate(automaton[0])
        for states in choices(ahead, arity)
    ])


def _is_standing(automaton, order, value):
    """Returns True if the value is an ascending tuple of pairs of these states, each made from pairs of it."""
    if not are_state_tuples(value, 2, len(automaton[1])):
        return False
    if not all([state in order for pair in value for state in pair]):
        return False
    made = made_pairs(automaton, value)
    return all([pair in made for pair in value])


def _is_pair_of(standing, value):
    """Returns True if the value is one of the pairs."""
    return is_tuple(value, 2, 2) and are_integers(value, 0, MOST_STATES - 1) and value in standing


def _is_climb(automaton, standing, value):
    """Returns True if the value is a climb with a pair of the standing set."""
    arities = automaton[0]
    if not is_tuple(value, 3, 3):
        return False
    symbol, child, beside = value
    if not is_integer(symbol, 0, len(arities) - 1) or not is_integer(child, 0, arities[symbol] - 1):
        return False
    return beside is None if arities[symbol] == 1 else _is_pair_of(standing, beside)
