"""The tokens of a text: numbers, words and signs."""

from integraph.errors import NoText
from integraph.rational import parse_digits

WORDS = ("x", "exp", "log")

_SIGNS = "+-*/^()"
LETTERS = "abcdefghijklmnopqrstuvwxyz"
DIGITS = "0123456789"
_MOST_DIGITS = 100


def tokens(text):
    """Returns the list of the tokens (kind, value, at), with one for the end as the last."""
    found = []
    at = 0
    while at < len(text):
        if text[at] == " ":
            at = at + 1
            continue
        kind, value, end = _token(text, at)
        found.append((kind, value, at))
        at = end
    found.append(("end", "", len(text)))
    return found


def _token(text, at):
    """Returns the kind and the value of the token that begins here, and where it ends."""
    if text[at] in _SIGNS:
        return "sign", text[at], at + 1
    end = _end_of_run(text, at, DIGITS)
    if end > at:
        return "number", _number(text, at, end), end
    end = _end_of_run(text, at, LETTERS)
    if text[at:end] not in WORDS:
        raise NoText(at)
    return "word", text[at:end], end


def _end_of_run(text, at, characters):
    while at < len(text) and text[at] in characters:
        at = at + 1
    return at


def _number(text, at, end):
    if end - at > _MOST_DIGITS or (text[at] == "0" and end - at > 1):
        raise NoText(at)
    return parse_digits(text[at:end])
