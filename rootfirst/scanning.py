"""The tokens of the texts of trees and automata."""

from rootfirst.errors import TextError
from rootfirst.forms import require

LONGEST_TEXT = 1000
LETTERS = "abcd"
DIGITS = "0123456789"
SIGNS = "(),:=;|"
MOST_DIGITS = 6
MOST_OPEN = 14


def is_text(value):
    """Returns True if the value is a string that is short enough and has no newlines."""
    return isinstance(value, str) and len(value) <= LONGEST_TEXT and "\n" not in value


def scan(text):
    """Returns the list of the tokens (kind, characters, column), the end behind them."""
    require(is_text(text), "text")
    found = []
    opened = 0
    at = 0
    while at < len(text):
        if text[at] == " ":
            at += 1
        else:
            token = _token_at(text, at)
            opened = _opened_behind(opened, token)
            found.append(token)
            at += len(token[1])
    found.append(("end", "", len(text) + 1))
    return found


def _token_at(text, at):
    """Returns the token that begins at this index."""
    first = text[at]
    column = at + 1
    if first in LETTERS:
        return ("letter", first, column)
    if first in SIGNS:
        return ("sign", first, column)
    if first not in DIGITS:
        raise TextError(column, "no token begins here")
    behind = at
    while behind < len(text) and text[behind] in DIGITS:
        behind += 1
    if behind - at > MOST_DIGITS:
        raise TextError(column, "a number has at most 6 digits")
    return ("number", text[at:behind], column)


def _opened_behind(opened, token):
    """Returns how many parentheses are open behind the token, if so many are open ahead of it."""
    _, characters, column = token
    if characters == "(":
        if opened == MOST_OPEN:
            raise TextError(column, "nested too deep")
        return opened + 1
    return max(0, opened - 1) if characters == ")" else opened
