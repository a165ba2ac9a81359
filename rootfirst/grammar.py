"""What can come at each place of a text, by the grammars of trees and automata.

What was read so far is told by a state. From a state lead its ways: pairs of
what can come, which is a kind of token or a sign, and of the state behind it,
in the order in which they are told.
"""

from rootfirst.errors import TextError

WORDS = {"letter": "a letter", "number": "a number", "end": "the end"}

# The state in the text of a tree is a pair of words for what was read last, and
# of a tuple that tells for each open parenthesis how many children have begun in it.
TREE_BEGINS = ("node begins", ())

AUTOMATON_BEGINS = "automaton begins"
AUTOMATON_WAYS = {
    "automaton begins": (("number", "states counted"),),
    "states counted": ((":", "step begins"),),
    "step begins": (("letter", "step named"),),
    "step named": (("(", "first child"), ("=", "goal")),
    "first child": (("number", "first child read"),),
    "first child read": ((")", "children read"), (",", "second child")),
    "second child": (("number", "second child read"),),
    "second child read": ((")", "children read"),),
    "children read": (("=", "goal"),),
    "goal": (("number", "step read"),),
    "step read": ((";", "step begins"), ("|", "good states")),
    "good states": (("number", "good states"), ("end", "all read")),
    "all read": (),
}


def coming_in_tree(tokens):
    """Returns the list of what can come behind the tokens in the text of a tree."""
    return _coming(_tree_ways, TREE_BEGINS, tokens)


def coming_in_automaton(tokens):
    """Returns the list of what can come behind the tokens in the text of an automaton."""
    return _coming(_automaton_ways, AUTOMATON_BEGINS, tokens)


def _coming(ways_from, state, tokens):
    """Returns the list of what can come behind the tokens, and refuses the first one that cannot come at its place."""
    for token in tokens:
        state = _state_behind(ways_from(state), token)
    return _in_words(ways_from(state))


def _state_behind(ways, token):
    """Returns the state to which the token leads."""
    kind, characters, column = token
    come = characters if kind == "sign" else kind
    for what, behind in ways:
        if what == come:
            return behind
    raise TextError(column, "expected " + _one_of(_in_words(ways)))


def _in_words(ways):
    """Returns the list of the words for what can come."""
    return [WORDS.get(what, f'"{what}"') for what, behind in ways]


def _one_of(words):
    """Returns the words joined, with an "or" before the last one."""
    if len(words) == 1:
        return words[0]
    return ", ".join(words[:-1]) + " or " + words[-1]


def _automaton_ways(state):
    """Returns the ways from the state in the text of an automaton."""
    return AUTOMATON_WAYS[state]


def _tree_ways(state):
    """Returns the ways from the state in the text of a tree."""
    read, opened = state
    if read == "all read":
        return ()
    if read == "node begins":
        return (("letter", ("letter read", opened)),)
    children = (("(", ("node begins", opened + (1,))),) if read == "letter read" else ()
    if not opened:
        return children + (("end", ("all read", ())),)
    closing = ((")", ("node ended", opened[:-1])),)
    if opened[-1] == 1:
        return children + closing + ((",", ("node begins", opened[:-1] + (2,))),)
    return children + closing
