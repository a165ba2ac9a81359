"""Trees and automata that are read from texts."""

from rootfirst.errors import TextError
from rootfirst.forms import MOST_NODES, MOST_STATES, require
from rootfirst.grammar import coming_in_automaton, coming_in_tree
from rootfirst.machines import choices
from rootfirst.scanning import LETTERS, is_text, scan
from rootfirst.trees import is_arities


def next_tokens(text, kind):
    """Returns the list of what can come behind the tokens of the beginning of a text of this kind."""
    require(is_text(text), "text")
    require(kind in ("tree", "automaton"), "kind")
    tokens = scan(text)[:-1]
    return coming_in_tree(tokens) if kind == "tree" else coming_in_automaton(tokens)


def read_tree(arities, text):
    """Returns the tree of the text."""
    require(is_arities(arities), "arities")
    tokens = scan(text)
    coming_in_tree(tokens)
    rows = _node_rows(tokens)
    for number, (symbol, many, column) in enumerate(rows):
        if number == MOST_NODES:
            raise TextError(column, "there are at most 15 nodes")
        if symbol >= len(arities):
            raise TextError(column, "there is no such symbol")
        if many != arities[symbol]:
            raise TextError(column, "this symbol has another arity")
    return _joined(rows)


def _node_rows(tokens):
    """Returns the list of [symbol, number of children, column] of the nodes, each before its children."""
    rows = []
    opened = []
    for kind, characters, column in tokens:
        if kind == "letter":
            if opened:
                opened[-1][1] += 1
            rows.append([LETTERS.index(characters), 0, column])
        if characters == "(":
            opened.append(rows[-1])
        if characters == ")":
            opened.pop()
    return rows


def _joined(rows):
    """Returns the tree of the nodes, each of which stands before its children."""
    joined = []
    for symbol, many, column in reversed(rows):
        children = [joined.pop() for _ in range(many)]
        joined.append((symbol,) + tuple(children))
    return joined[0]


def read_automaton(text):
    """Returns the automaton of the text."""
    tokens = scan(text)
    coming_in_automaton(tokens)
    many = _read_count(tokens[0])
    signs = [characters for kind, characters, column in tokens]
    bar = signs.index("|")
    arities, entries = _read_steps(tokens[1:bar], many)
    _require_all_steps(arities, entries, many, tokens[bar][2])
    good = _read_good(tokens[bar + 1:-1], many)
    steps = tuple([_entry(entries, symbol, (), arity, many) for symbol, arity in enumerate(arities)])
    return (arities, good, steps)


def _read_count(token):
    """Returns the number of the states."""
    many = int(token[1])
    if many < 1 or many > MOST_STATES:
        raise TextError(token[2], "there are 1 to 4 states")
    return many


def _read_state(token, many):
    """Returns the state, of which there are so many."""
    state = int(token[1])
    if state >= many:
        raise TextError(token[2], "there is no such state")
    return state


def _read_steps(tokens, many):
    """Returns the arities, None for a symbol that is missing, and a dict with the state for each (symbol, states)."""
    rows = []
    for token in tokens:
        if token[0] == "letter":
            rows.append([token])
        if token[0] == "number":
            rows[-1].append(token)
    arities = {}
    entries = {}
    for letter, *children, goal in rows:
        symbol = LETTERS.index(letter[1])
        if arities.setdefault(symbol, len(children)) != len(children):
            raise TextError(letter[2], "this symbol has another arity")
        key = (symbol, tuple([_read_state(token, many) for token in children]))
        if key in entries:
            raise TextError(letter[2], "this step stands already")
        entries[key] = _read_state(goal, many)
    return (tuple([arities.get(symbol) for symbol in range(max(arities) + 1)]), entries)


def _require_all_steps(arities, entries, many, column):
    """Refuses steps that leave out a symbol, or a step of one."""
    if None in arities:
        raise TextError(column, "a symbol is missing")
    for symbol, arity in enumerate(arities):
        for states in choices(list(range(many)), arity):
            if (symbol, states) not in entries:
                raise TextError(column, "a step is missing")


def _read_good(tokens, many):
    """Returns for each state whether it is among the good ones."""
    chosen = []
    for token in tokens:
        state = _read_state(token, many)
        if state in chosen:
            raise TextError(token[2], "this state stands already")
        chosen.append(state)
    return tuple([state in chosen for state in range(many)])


def _entry(entries, symbol, states, left, many):
    """Returns the entry of a symbol from the states of its first children on, of which so many are left."""
    if left == 0:
        return entries[(symbol, states)]
    return tuple([_entry(entries, symbol, states + (state,), left - 1, many) for state in range(many)])
