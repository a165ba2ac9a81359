"""The pair of two automata, and the minimal automaton of a great automaton."""

from rootfirst.machines import choices, lead, reached_states


def paired(first, second, judged):
    """Returns the pair of both automata, with the flags that are judged from those of the two states.

    The state of a pair is the number of the pair among all of them, in order.
    """
    many = len(second[1])
    states = [(one, other) for one in range(len(first[1])) for other in range(many)]
    good = tuple([judged(first[1][one], second[1][other]) for one, other in states])
    steps = tuple([
        _paired_entry(one, other, arity, states, many)
        for one, other, arity in zip(first[2], second[2], first[0])
    ])
    return (first[0], good, steps)


def _paired_entry(one, other, arity, states, many):
    """Returns the entry of a symbol for the pairs, where `one` and `other` are those for the two states."""
    if arity == 0:
        return one * many + other
    return tuple([_paired_entry(one[low], other[high], arity - 1, states, many) for low, high in states])


def minimal_of(automaton):
    """Returns the minimal automaton of a great automaton."""
    arities, good, steps = automaton
    classes = _classes(automaton)
    chosen = _numbered(automaton, classes)
    if not chosen:
        return (arities, (False,), tuple([_entry_of_none(arity) for arity in arities]))
    numbers = {classes[state]: number for number, state in enumerate(chosen)}
    least = [_least_entry(entry, arity, chosen, classes, numbers) for entry, arity in zip(steps, arities)]
    return (arities, tuple([good[state] for state in chosen]), tuple(least))


def _entry_of_none(arity):
    """Returns the entry of a symbol if there is just the state 0."""
    return 0 if arity == 0 else (_entry_of_none(arity - 1),)


def _least_entry(entry, arity, chosen, classes, numbers):
    """Returns the entry of a symbol for the numbered states, of which one of each class is chosen."""
    if arity == 0:
        return numbers[classes[entry]]
    return tuple([_least_entry(entry[state], arity - 1, chosen, classes, numbers) for state in chosen])


def _classes(automaton):
    """Returns a dict with a number for each reached state, the same for equivalent ones."""
    states = reached_states(automaton)
    classes = _told_apart({state: (automaton[1][state],) for state in states})
    finer = _told_apart(_views(automaton, states, classes))
    # Classes only split, so that as many of them are the same ones.
    while len(set(list(finer.values()))) > len(set(list(classes.values()))):
        classes = finer
        finer = _told_apart(_views(automaton, states, classes))
    return classes


def _told_apart(views):
    """Returns a dict with the same number for each two keys that have the same view."""
    numbers = {}
    classes = {}
    for state in views:
        classes[state] = numbers.setdefault(views[state], len(numbers))
    return classes


def _views(automaton, states, classes):
    """Returns for each state its class, with those to which it leads as any child of any symbol."""
    arities, _, steps = automaton
    views = {}
    for state in states:
        view = [classes[state]]
        for entry, arity in zip(steps, arities):
            if arity == 1:
                view.append(classes[entry[state]])
            if arity == 2:
                view.extend([classes[entry[state][beside]] for beside in states])
                view.extend([classes[entry[beside][state]] for beside in states])
        views[state] = tuple(view)
    return views


def _numbered(automaton, classes):
    """Returns the list of one state for each class, as they get their numbers in rounds."""
    chosen = []
    more = _with_one_more_round(automaton, classes, chosen)
    while len(more) > len(chosen):
        chosen = more
        more = _with_one_more_round(automaton, classes, chosen)
    return chosen


def _with_one_more_round(automaton, classes, before):
    """Returns the states that were numbered before, and behind them those that this round numbers."""
    chosen = list(before)
    numbers = {classes[state]: True for state in before}
    for symbol, arity in enumerate(automaton[0]):
        for states in choices(before, arity):
            state = lead(automaton[2][symbol], states)
            if classes[state] not in numbers:
                numbers[classes[state]] = True
                chosen.append(state)
    return chosen
