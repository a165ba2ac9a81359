"""The great automaton of a table: the state of a tree tells from which states the table takes it.

Sets of states of the table are numbered by bits, so that the states of the
great automaton are the numbers of all sets.
"""

def number_of(chosen):
    """Returns the number of the set."""
    return sum([1 << state for state in chosen])


def set_of(number):
    """Returns the set that has the number."""
    return tuple([state for state in range(number.bit_length()) if number >> state & 1])


def taking(arities, table):
    """Returns the great automaton of the table."""
    start, rows = table
    sets = [set_of(number) for number in range(1 << len(rows))]
    good = tuple([start in chosen for chosen in sets])
    steps = tuple([_entry([row[symbol] for row in rows], (), arity, sets) for symbol, arity in enumerate(arities)])
    return (arities, good, steps)


def _entry(column, below, left, sets):
    """Returns the entry of a symbol, told in the rows by the column, with the takers `below` of its first children."""
    if left == 0:
        return number_of(takers_behind(column, below))
    return tuple([_entry(column, below + (chosen,), left - 1, sets) for chosen in sets])


def takers_behind(column, below):
    """Returns the set of the states whose entries take a tree, if its children have the takers `below`."""
    return tuple([state for state, entry in enumerate(column) if _hands_on(entry, below)])


def _hands_on(entry, below):
    """Returns True if the entry does not fail, and names one of the takers of each child."""
    return entry is not None and all([state in chosen for state, chosen in zip(entry, below)])
