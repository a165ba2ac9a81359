"""Whether two tables take the same trees."""

from rootfirst.forms import is_ascending, is_state_set, is_tuple, require
from rootfirst.relations import are_same_in, first_apart, is_closed_relation, reached_pairs
from rootfirst.taking import number_of, set_of, taking
from rootfirst.topdown import is_table

MOST_PAIRS = 256


def _require_two(arities, first, second):
    """Refuses the arities, or the first or the second table."""
    require(is_table(arities, first), "first")
    require(is_table(arities, second), "second")


def telling_tree(arities, first, second):
    """Returns the telling tree of the two tables, or None if they are the same."""
    _require_two(arities, first, second)
    return first_apart(taking(arities, first), taking(arities, second))


def same_evidence(arities, first, second):
    """Returns the least relation if the tables are the same, otherwise None."""
    _require_two(arities, first, second)
    one, other = taking(arities, first), taking(arities, second)
    told = reached_pairs(one, other)
    if not are_same_in(one, other, told):
        return None
    return tuple(sorted([(set_of(low), set_of(high)) for low, high in told]))


def accepts_same(arities, first, second, value):
    """Returns True if the value is evidence that the tables are the same."""
    _require_two(arities, first, second)
    if not _is_relation(value, len(first[1]), len(second[1])):
        return False
    one, other = taking(arities, first), taking(arities, second)
    relation = [(number_of(low), number_of(high)) for low, high in value]
    return are_same_in(one, other, relation) and is_closed_relation(one, other, relation)


def _is_relation(value, many, more):
    """Returns True if the value is an ascending tuple of pairs of sets, of so many states and of so many more."""
    if not is_tuple(value, 0, MOST_PAIRS) or not all([_is_set_pair(pair, many, more) for pair in value]):
        return False
    return is_ascending(value)


def _is_set_pair(value, many, more):
    """Returns True if the value is a pair of sets, of so many states and of so many more."""
    return is_tuple(value, 2, 2) and is_state_set(value[0], many) and is_state_set(value[1], more)
