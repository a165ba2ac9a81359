"""Forms of values, and the refusal of an argument that has not its form.

Each test looks at a value no deeper than the form goes, so that values nested
some thousand deep are refused like others.
"""

from rootfirst.errors import BadValue

MOST_SYMBOLS = 4
MOST_CHILDREN = 2
MOST_NODES = 15
MOST_STATES = 4
MOST_LEVELS = 12
MOST_SEARCHED = 6


def require(holds, name):
    """Refuses the argument of this name if its form does not hold."""
    if not holds:
        raise BadValue(name)


def is_integer(value, least, most):
    """Returns True if the value is an integer (not True or False) within the bounds."""
    return isinstance(value, int) and not isinstance(value, bool) and least <= value <= most


def is_tuple(value, least, most):
    """Returns True if the value is a tuple with a number of items within the bounds."""
    return isinstance(value, tuple) and least <= len(value) <= most


def are_integers(values, least, most):
    """Returns True if all of the values are integers within the bounds."""
    return all([is_integer(value, least, most) for value in values])


def is_ascending(rows):
    """Returns True if each item is less than the next one, so that all are different."""
    return all([rows[at] < rows[at + 1] for at in range(len(rows) - 1)])


def is_state_set(value, many):
    """Returns True if the value is a set of states, of which there are so many."""
    return is_tuple(value, 0, many) and are_integers(value, 0, many - 1) and is_ascending(value)


def are_state_tuples(value, length, many):
    """Returns True if the value is an ascending tuple of different tuples of this length of states, of which
    there are so many."""
    if not isinstance(value, tuple) or not all([is_tuple(row, length, length) for row in value]):
        return False
    return all([are_integers(row, 0, many - 1) for row in value]) and is_ascending(value)


def is_tree_form(arities, value, with_holes):
    """Returns True if the value is a tree for the arities, of which parts can be None if it can have holes."""
    waiting = [value]
    nodes = 0
    while waiting:
        node = waiting.pop()
        nodes += 1
        if nodes > MOST_NODES:
            return False
        if node is not None or not with_holes:
            if not _is_node(arities, node):
                return False
            waiting.extend(node[1:])
    return True


def _is_node(arities, value):
    """Returns True if the value has a symbol and as many items behind it as its arity says."""
    if not is_tuple(value, 1, MOST_CHILDREN + 1) or not is_integer(value[0], 0, len(arities) - 1):
        return False
    return len(value) == 1 + arities[value[0]]
