"""Gardens that are replayed from a journal, and whether records are right."""

from rootfirst.commands import MOST_COMMANDS, is_command
from rootfirst.errors import NotPossible
from rootfirst.forms import MOST_STATES, are_integers, is_tuple, require
from rootfirst.garden import Garden
from rootfirst.runs import is_automaton


def replayed(automaton, journal):
    """Returns the garden that has carried out the commands of the journal."""
    require(is_automaton(automaton), "automaton")
    require(_is_journal(automaton, journal), "journal")
    garden = Garden(automaton)
    for command in journal:
        garden.act(command)
    return garden


def _is_journal(automaton, value):
    """Returns True if the value is a tuple of commands, not too many."""
    return is_tuple(value, 0, MOST_COMMANDS) and all([is_command(automaton, command) for command in value])


def are_right(automaton, records):
    """Returns True if the records are right."""
    require(is_automaton(automaton), "automaton")
    if not is_tuple(records, 0, MOST_COMMANDS):
        return False
    garden = Garden(automaton)
    for record in records:
        if not _holds_next(garden, record):
            return False
    return True


def _holds_next(garden, value):
    """Carries out the command of a record in the garden. Returns True if the record holds."""
    if not is_tuple(value, 2, 2) or not is_command(garden.automaton(), value[0]):
        return False
    try:
        garden.act(value[0])
    except NotPossible:
        return False
    told = garden.states()
    # Only a value of this form is compared, since True is equal to 1.
    return is_tuple(value[1], len(told), len(told)) and are_integers(value[1], 0, MOST_STATES - 1) and value[1] == told
