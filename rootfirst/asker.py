"""An asker finds out, symbol by symbol, whether a tree that it cannot see is good."""

from rootfirst.completing import holes_in, matters_at, nodes_in, states_with, verdict_on
from rootfirst.errors import NotPossible, TooLarge
from rootfirst.forms import MOST_NODES, is_integer, require
from rootfirst.machines import reached_states
from rootfirst.nodes import replaced
from rootfirst.sketches import require_automaton_with_trees


class Asker:
    """Holds a sketch, and asks for no symbol that could not matter."""

    def __init__(self, automaton):
        require_automaton_with_trees(automaton)
        self._automaton = automaton
        self._told = []
        # The sketch at the beginning, and the one behind each told symbol.
        self._sketches = [None]

    def ask(self):
        """Returns the place for which it asks, or None if the verdict is not "open"."""
        sketch = self.sketch()
        for place in holes_in(sketch):
            if matters_at(self._automaton, sketch, place):
                return place
        return None

    def tell(self, symbol):
        """Tells the symbol at the place for which it asks. Returns the verdict behind it."""
        arities = self._automaton[0]
        require(is_integer(symbol, 0, len(arities) - 1), "symbol")
        place = self.ask()
        if place is None:
            raise NotPossible("sure")
        sketch = self.sketch()
        if nodes_in(sketch) + arities[symbol] > MOST_NODES:
            raise TooLarge("sketch")
        self._sketches.append(replaced(sketch, place, (symbol,) + (None,) * arities[symbol]))
        self._told.append(symbol)
        return self.verdict()

    def sketch(self):
        """Returns the sketch."""
        return self._sketches[-1]

    def verdict(self):
        """Returns the verdict."""
        states = states_with(self._automaton, self.sketch(), reached_states(self._automaton))
        return verdict_on(self._automaton, states)

    def take_back(self):
        """Takes the last told symbol back. Returns it, or None if there is none."""
        if not self._told:
            return None
        self._sketches.pop()
        return self._told.pop()
