"""How many good trees there are in all, or that there are infinitely many, with evidence."""

from rootfirst.forms import are_integers, is_integer, is_tuple, require
from rootfirst.machines import first_trees, lead, reached_states, state_of
from rootfirst.ranking import good_counts, tree_counts
from rootfirst.runs import is_automaton
from rootfirst.trees import is_tree

MOST_STEPS = 16


def total_good(automaton):
    """Returns the total, or None if there are infinitely many good trees."""
    require(is_automaton(automaton), "automaton")
    return None if _endless_states(automaton) else _sum_of_good(automaton)


def total_evidence(automaton):
    """Returns accepted evidence of the word that is right."""
    require(is_automaton(automaton), "automaton")
    endless = _endless_states(automaton)
    if not endless:
        return ("total", _sum_of_good(automaton), _told_order(automaton))
    state = endless[0]
    states = reached_states(automaton)
    good = [goal for goal in states if automaton[1][goal]]
    ways = _shortest_way(automaton, states, state, [state])
    onward = () if state in good else _shortest_way(automaton, states, state, good)
    return ("endless", state, _with_trees(automaton, ways), _with_trees(automaton, onward))


def accepts_total(automaton, value):
    """Returns True if the value is evidence of either word."""
    require(is_automaton(automaton), "automaton")
    if is_tuple(value, 4, 4) and value[0] == "endless":
        return _is_endless_told(automaton, value[1], value[2], value[3])
    if is_tuple(value, 3, 3) and value[0] == "total":
        return _is_total_told(automaton, value[1], value[2])
    return False


def _sum_of_good(automaton):
    """Returns the number of the good trees of at most 15 nodes."""
    return sum(good_counts(automaton, tree_counts(automaton)))


def _steps_up(automaton, states, state):
    """Returns the list of all steps up from the state, with one of the states in the other child.

    A step is (symbol, child, state of the other child or None, state behind).
    """
    found = []
    for symbol, arity in enumerate(automaton[0]):
        entry = automaton[2][symbol]
        if arity == 1:
            found.append((symbol, 0, None, entry[state]))
        if arity == 2:
            found.extend([(symbol, 0, beside, entry[state][beside]) for beside in states])
            found.extend([(symbol, 1, beside, entry[beside][state]) for beside in states])
    return found


def _shortest_way(automaton, states, start, goals):
    """Returns the shortest tuple of steps up, one or more, from the start to a goal, or None."""
    waiting = [(start, ())]
    come_to = []
    while waiting:
        state, way = waiting.pop(0)
        for step in _steps_up(automaton, states, state):
            if step[3] in goals:
                return way + (step,)
            if step[3] not in come_to:
                come_to.append(step[3])
                waiting.append((step[3], way + (step,)))
    return None


def _with_trees(automaton, way):
    """Returns the steps with the first tree of each state that stands in another child."""
    firsts = first_trees(automaton)
    return tuple([
        (symbol, child, None if beside is None else firsts[beside], behind)
        for symbol, child, beside, behind in way
    ])


def _useful_states(automaton, states):
    """Returns the list of those of the reached states that lead, by none or more steps up, to a good one."""
    good = [state for state in states if automaton[1][state]]
    return [
        state for state in states
        if state in good or _shortest_way(automaton, states, state, good) is not None
    ]


def _endless_states(automaton):
    """Returns the list of the reached states that lead to themselves and to a good one."""
    states = reached_states(automaton)
    return [
        state for state in _useful_states(automaton, states)
        if _shortest_way(automaton, states, state, [state]) is not None
    ]


def _told_order(automaton):
    """Returns the states that lead to a good one, each ahead of those to which it leads."""
    states = reached_states(automaton)
    left = _useful_states(automaton, states)
    order = ()
    while left:
        led_to = [step[3] for state in left for step in _steps_up(automaton, states, state)]
        free = [state for state in left if state not in led_to]
        order = order + tuple(free)
        left = [state for state in left if state in led_to]
    return order


def _is_endless_told(automaton, state, ways, onward):
    """Returns True if the items are evidence that there are infinitely many good trees."""
    if not is_integer(state, 0, len(automaton[1]) - 1) or state not in reached_states(automaton):
        return False
    if not is_tuple(ways, 1, MOST_STEPS) or not is_tuple(onward, 0, MOST_STEPS):
        return False
    if _state_behind(automaton, state, ways) != state:
        return False
    last = _state_behind(automaton, state, onward)
    return last is not None and automaton[1][last]


def _state_behind(automaton, state, way):
    """Returns the state to which the steps lead from the state, or None if one of them does not hold."""
    for step in way:
        if not _is_step_up(automaton, state, step):
            return None
        state = step[3]
    return state


def _is_step_up(automaton, state, value):
    """Returns True if the value is a step up from the state, with a tree as the other child."""
    arities, good, steps = automaton
    if not is_tuple(value, 4, 4):
        return False
    symbol, child, beside, behind = value
    if not is_integer(symbol, 0, len(arities) - 1) or not is_integer(child, 0, arities[symbol] - 1):
        return False
    if not is_integer(behind, 0, len(good) - 1):
        return False
    if arities[symbol] == 1:
        return beside is None and lead(steps[symbol], [state]) == behind
    if not is_tree(arities, beside):
        return False
    other = state_of(automaton, beside)
    return lead(steps[symbol], [other, state] if child == 1 else [state, other]) == behind


def _is_total_told(automaton, number, order):
    """Returns True if the items are evidence that there are so many good trees."""
    states = reached_states(automaton)
    if not is_tuple(order, 0, len(states)) or not are_integers(order, 0, len(automaton[1]) - 1):
        return False
    if not all([state in states for state in order]) or len(set(order)) != len(order):
        return False
    if not all([state in order for state in _useful_states(automaton, states)]):
        return False
    if not _leads_onward(automaton, states, order):
        return False
    total = _sum_of_good(automaton)
    return is_integer(number, total, total)


def _leads_onward(automaton, states, order):
    """Returns True if no step up leads from one in the order to itself or to one ahead of it."""
    for at, state in enumerate(order):
        for step in _steps_up(automaton, states, state):
            if step[3] in order[:at + 1]:
                return False
    return True
