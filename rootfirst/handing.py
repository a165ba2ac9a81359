"""What a judge from the root hands to the children of a node, by the states that it still lets the node have.

`seen` has for each child of a node the states that the child can have, as far
as the judge sees it.
"""

from rootfirst.machines import reached_states


def led_to(entry, seen):
    """Returns the set of the states to which the entry of a symbol leads from a seen state of each child."""
    if not seen:
        return (entry,)
    return tuple(sorted({state for one in seen[0] for state in led_to(entry[one], seen[1:])}))


def good_set(automaton):
    """Returns the set of the good states that some tree has."""
    return tuple([state for state in reached_states(automaton) if automaton[1][state]])


def handed_sets(automaton, symbol, goal, seen):
    """Returns the tuple of the sets for the children of a node with the set `goal`, or None if the node fails.

    A child's set has the states from which, with a seen state of the other
    child, the symbol leads into the goal.
    """
    entry = automaton[2][symbol]
    if not _meets(led_to(entry, seen), goal):
        return None
    states = reached_states(automaton)
    return tuple([
        tuple([state for state in states if _meets(led_to(entry, seen[:at] + ((state,),) + seen[at + 1:]), goal)])
        for at in range(len(seen))
    ])


def _meets(states, goal):
    """Returns True if one of the states is in the goal."""
    return any([state in goal for state in states])
