"""Whether a table takes exactly the good trees of an automaton."""

from rootfirst.forms import is_ascending, is_integer, is_state_set, is_tuple, require
from rootfirst.relations import are_same_in, first_apart, is_closed_relation, reached_pairs
from rootfirst.runs import is_automaton
from rootfirst.taking import number_of, set_of, taking
from rootfirst.topdown import is_table

MOST_PAIRS = 64


def _require_automaton_and_table(automaton, table):
    """Refuses what is not an automaton, or not a table for its arities."""
    require(is_automaton(automaton), "automaton")
    require(is_table(automaton[0], table), "table")


def wrong_tree(automaton, table):
    """Returns the wrong tree of the table, or None if the table is right."""
    _require_automaton_and_table(automaton, table)
    return first_apart(automaton, taking(automaton[0], table))


def right_evidence(automaton, table):
    """Returns the told relation if the table is right, otherwise None."""
    _require_automaton_and_table(automaton, table)
    judge = taking(automaton[0], table)
    told = reached_pairs(automaton, judge)
    if not are_same_in(automaton, judge, told):
        return None
    return tuple(sorted([(state, set_of(number)) for state, number in told]))


def accepts_right(automaton, table, value):
    """Returns True if the value is evidence that the table is right."""
    _require_automaton_and_table(automaton, table)
    if not _is_relation(value, len(automaton[1]), len(table[1])):
        return False
    judge = taking(automaton[0], table)
    relation = [(state, number_of(chosen)) for state, chosen in value]
    return are_same_in(automaton, judge, relation) and is_closed_relation(automaton, judge, relation)


def _is_relation(value, many, more):
    """Returns True if the value is an ascending tuple of pairs of one of so many states and a set of so many more."""
    if not is_tuple(value, 0, MOST_PAIRS) or not all([_is_pair(pair, many, more) for pair in value]):
        return False
    return is_ascending(value)


def _is_pair(value, many, more):
    """Returns True if the value is a pair of one of so many states, and a set of so many more."""
    return is_tuple(value, 2, 2) and is_integer(value[0], 0, many - 1) and is_state_set(value[1], more)
