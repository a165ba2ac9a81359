"""Whether two automata have the same good trees, or one has all those of the other."""

from rootfirst.errors import TooLarge
from rootfirst.forms import is_ascending, is_integer, is_tuple, require
from rootfirst.machines import choices, first_trees, lead, reached_states
from rootfirst.minimizing import minimal_of, paired
from rootfirst.nodes import order_key
from rootfirst.runs import is_automaton

MOST_PAIRS = 16


def _require_two(first, second):
    """Refuses what is not an automaton, or not a second one for the same arities."""
    require(is_automaton(first), "first")
    require(is_automaton(second) and first[0] == second[0], "second")


def _are_good(one, other):
    return one and other


def _is_one_good(one, other):
    return one or other


def _is_first_alone_good(one, other):
    return one and not other


def _differ(one, other):
    return one != other


def telling_tree(first, second):
    """Returns the telling tree, or None if the automata are the same."""
    _require_two(first, second)
    pair = paired(first, second, _differ)
    telling = [state for state in reached_states(pair) if pair[1][state]]
    if not telling:
        return None
    firsts = first_trees(pair)
    found = [firsts[state] for state in telling if firsts[state] is not None]
    if not found:
        raise TooLarge("tree")
    return min(found, key=order_key)


def minimal(automaton):
    """Returns the minimal automaton."""
    require(is_automaton(automaton), "automaton")
    return minimal_of(automaton)


def both(first, second):
    """Returns the minimal automaton of the trees that are good for both."""
    _require_two(first, second)
    return minimal_of(paired(first, second, _are_good))


def either(first, second):
    """Returns the minimal automaton of the trees that are good for one of them, or for both."""
    _require_two(first, second)
    return minimal_of(paired(first, second, _is_one_good))


def without(first, second):
    """Returns the minimal automaton of the trees that are good for the first one, and not for the second one."""
    _require_two(first, second)
    return minimal_of(paired(first, second, _is_first_alone_good))


def same_evidence(first, second):
    """Returns the least relation if the automata are the same, otherwise None."""
    _require_two(first, second)
    return _evidence(first, second, _differ)


def within_evidence(first, second):
    """Returns the least relation if the first automaton is within the second one, otherwise None."""
    _require_two(first, second)
    return _evidence(first, second, _is_first_alone_good)


def accepts_same(first, second, value):
    """Returns True if the value is evidence that the automata are the same."""
    _require_two(first, second)
    return _is_relation(first, second, value) and _is_evidence(first, second, value, _differ)


def accepts_within(first, second, value):
    """Returns True if the value is evidence that the first automaton is within the second one."""
    _require_two(first, second)
    return _is_relation(first, second, value) and _is_evidence(first, second, value, _is_first_alone_good)


def _evidence(first, second, barred):
    """Returns the least relation if it has no pair whose flags are barred, otherwise None."""
    many = len(second[1])
    pair = paired(first, second, barred)
    states = reached_states(pair)
    if any([pair[1][state] for state in states]):
        return None
    return tuple([divmod(state, many) for state in states])


def _is_relation(first, second, value):
    """Returns True if the value is an ascending tuple of pairs of a state of each of both."""
    if not is_tuple(value, 0, MOST_PAIRS) or not all([_is_state_pair(first, second, pair) for pair in value]):
        return False
    return is_ascending(value)


def _is_state_pair(first, second, value):
    """Returns True if the value is a pair of a state of the first and of the second automaton."""
    if not is_tuple(value, 2, 2):
        return False
    return is_integer(value[0], 0, len(first[1]) - 1) and is_integer(value[1], 0, len(second[1]) - 1)


def _is_evidence(first, second, relation, barred):
    """Returns True if the relation is closed, and has no pair whose flags are barred."""
    if any([barred(first[1][one], second[1][other]) for one, other in relation]):
        return False
    return all([
        _pair_behind(first, second, symbol, chosen) in relation
        for symbol, arity in enumerate(first[0])
        for chosen in choices(relation, arity)
    ])


def _pair_behind(first, second, symbol, chosen):
    """Returns the pair of the states to which the symbol leads from the chosen pairs."""
    one = lead(first[2][symbol], [pair[0] for pair in chosen])
    other = lead(second[2][symbol], [pair[1] for pair in chosen])
    return (one, other)
