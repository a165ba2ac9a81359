"""Whether two automata have the same good trees, or one has all those of the other."""

from rootfirst.forms import is_ascending, is_integer, is_tuple, require
from rootfirst.minimizing import minimal_of, paired
from rootfirst.relations import first_apart, is_closed_relation, reached_pairs
from rootfirst.runs import is_automaton

MOST_PAIRS = 16


def _require_two(first, second):
    """Refuses what is not an automaton, or not a second one for the same arities."""
    require(is_automaton(first), "first")
    require(is_automaton(second) and first[0] == second[0], "second")


def _are_good(one, other):
    return one and other


def _is_one_good(one, other):
    return one or other


def _is_first_alone_good(one, other):
    return one and not other


def _differ(one, other):
    return one != other


def telling_tree(first, second):
    """Returns the telling tree, or None if the automata are the same."""
    _require_two(first, second)
    return first_apart(first, second)


def minimal(automaton):
    """Returns the minimal automaton."""
    require(is_automaton(automaton), "automaton")
    return minimal_of(automaton)


def both(first, second):
    """Returns the minimal automaton of the trees that are good for both."""
    _require_two(first, second)
    return minimal_of(paired(first, second, _are_good))


def either(first, second):
    """Returns the minimal automaton of the trees that are good for one of them, or for both."""
    _require_two(first, second)
    return minimal_of(paired(first, second, _is_one_good))


def without(first, second):
    """Returns the minimal automaton of the trees that are good for the first one, and not for the second one."""
    _require_two(first, second)
    return minimal_of(paired(first, second, _is_first_alone_good))


def same_evidence(first, second):
    """Returns the least relation if the automata are the same, otherwise None."""
    _require_two(first, second)
    return _evidence(first, second, _differ)


def within_evidence(first, second):
    """Returns the least relation if the first automaton is within the second one, otherwise None."""
    _require_two(first, second)
    return _evidence(first, second, _is_first_alone_good)


def accepts_same(first, second, value):
    """Returns True if the value is evidence that the automata are the same."""
    _require_two(first, second)
    return _is_relation(first, second, value) and _is_evidence(first, second, value, _differ)


def accepts_within(first, second, value):
    """Returns True if the value is evidence that the first automaton is within the second one."""
    _require_two(first, second)
    return _is_relation(first, second, value) and _is_evidence(first, second, value, _is_first_alone_good)


def _evidence(first, second, barred):
    """Returns the least relation if it has no pair whose flags are barred, otherwise None."""
    relation = tuple(reached_pairs(first, second))
    return None if _has_barred(first, second, relation, barred) else relation


def _has_barred(first, second, relation, barred):
    """Returns True if some pair of the relation has flags that are barred."""
    return any([barred(first[1][one], second[1][other]) for one, other in relation])


def _is_relation(first, second, value):
    """Returns True if the value is an ascending tuple of pairs of a state of each of both."""
    if not is_tuple(value, 0, MOST_PAIRS) or not all([_is_state_pair(first, second, pair) for pair in value]):
        return False
    return is_ascending(value)


def _is_state_pair(first, second, value):
    """Returns True if the value is a pair of a state of the first and of the second automaton."""
    if not is_tuple(value, 2, 2):
        return False
    return is_integer(value[0], 0, len(first[1]) - 1) and is_integer(value[1], 0, len(second[1]) - 1)


def _is_evidence(first, second, relation, barred):
    """Returns True if the relation is closed, and has no pair whose flags are barred."""
    if _has_barred(first, second, relation, barred):
        return False
    return is_closed_relation(first, second, relation)
