"""A garden has an automaton and trees, which change by commands that can be undone."""

from rootfirst.closure import is_let_in
from rootfirst.commands import MOST_COMMANDS, carried_out, is_command
from rootfirst.errors import TooLarge
from rootfirst.forms import MOST_LEVELS, is_integer, require
from rootfirst.machines import state_of
from rootfirst.runs import is_automaton


class Garden:
    """Holds its journal, and what automaton and trees were behind each command."""

    def __init__(self, automaton):
        require(is_automaton(automaton), "automaton")
        self._journal = []
        # The automaton and the trees at the beginning, and those behind each command.
        self._stages = [(automaton, ())]

    def act(self, command):
        """Carries out the command. Returns the number of commands in the journal."""
        automaton, trees = self._stages[-1]
        require(is_command(automaton, command), "command")
        stage = carried_out(automaton, trees, command)
        if len(self._journal) == MOST_COMMANDS:
            raise TooLarge("commands")
        self._stages.append(stage)
        self._journal.append(command)
        return len(self._journal)

    def undo(self):
        """Undoes the last command. Returns it, or None if the journal is empty."""
        if not self._journal:
            return None
        self._stages.pop()
        return self._journal.pop()

    def automaton(self):
        """Returns the present automaton."""
        return self._stages[-1][0]

    def trees(self):
        """Returns the tuple of the trees."""
        return self._stages[-1][1]

    def journal(self):
        """Returns the tuple of the commands in the journal."""
        return tuple(self._journal)

    def states(self):
        """Returns the states of the trees."""
        return _states_of(self._stages[-1])

    def good(self):
        """Returns the ascending tuple of the numbers of the good trees."""
        flags = self.automaton()[1]
        return tuple([number for number, state in enumerate(self.states()) if flags[state]])

    def let_in(self, depth):
        """Returns the ascending tuple of the numbers of the trees that are let in at the depth."""
        require(is_integer(depth, 1, MOST_LEVELS), "depth")
        automaton, trees = self._stages[-1]
        return tuple([number for number, tree in enumerate(trees) if is_let_in(automaton, depth, tree)])

    def records(self):
        """Returns the tuple of the records: the commands in the journal, each with the states behind it."""
        return tuple([(command, _states_of(stage)) for command, stage in zip(self._journal, self._stages[1:])])

    def twin(self):
        """Returns a twin: a garden with the same first automaton and journal."""
        other = Garden(self._stages[0][0])
        for command in self.journal():
            other.act(command)
        return other


def _states_of(stage):
    """Returns the tuple of the states of the trees for the automaton beside them."""
    automaton, trees = stage
    return tuple([state_of(automaton, tree) for tree in trees])
