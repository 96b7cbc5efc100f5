"""Replies to lines, as far as no integral is searched for, and entries that are right."""

from integraph.answers import derivative, is_answer
from integraph.build import build, expression
from integraph.checker import accepts
from integraph.errors import NoText, Refused, TooLarge
from integraph.printing import show
from integraph.sheet import answer_text, read_line

_DONE = ("done", "", ())


def plain_reply(names, line):
    """Returns the reply to a line; for an integral the pair of the tower and the element."""
    try:
        return _reply_to_command(read_line(names, line))
    except NoText as fault:
        return _error(f"text {fault.at}")
    except Refused as fault_of_reading:
        return _error(f"refused {fault_of_reading.reason}")
    except TooLarge as fault_of_size:
        return _error(f"large {fault_of_size.what}")


def _error(text):
    return ("error", text, ())


def _reply_to_command(command):
    word = command[0]
    if word == "let" or word == "empty":
        return _DONE
    tower, found, _ = build(command[1:])
    if word == "integrate":
        return tower, found[0]
    if word == "derive":
        e = tower.derive(tower.height(), found[0])
        return ("element", show(expression(tower, e)), (tower.monomials(), e))
    if found[0] == found[1]:
        return ("equal", "yes", ())
    return ("equal", "no", ())


def answer_reply(tower, answer):
    """Returns the reply that tells an answer."""
    return ("answer", answer_text(tower, answer), (tower.monomials(), answer))


def none_reply(tower, certificate):
    """Returns the reply that tells that there is no answer."""
    return ("none", "none", (tower.monomials(), certificate))


def is_right(names, entry):
    """Tells whether an entry is right over the definitions; it may be any value."""
    if not isinstance(entry, tuple) or len(entry) != 2:
        return False
    line, reply = entry
    wanted = plain_reply(names, line)
    if len(wanted) == 3:
        return _is_same(reply, wanted)
    return _is_right_integral(wanted[0], wanted[1], reply)


def _is_same(value, wanted):
    """Tells whether a value is what is wanted: True and 1 are not the same."""
    return value == wanted and not _has_boolean(value)


def _has_boolean(value):
    if isinstance(value, tuple):
        return any([_has_boolean(item) for item in value])
    return isinstance(value, bool)


def _is_right_integral(tower, f, reply):
    """Tells whether a value is a reply that tells the integral of f, or that there is none."""
    if not isinstance(reply, tuple) or len(reply) != 3:
        return False
    kind, _, data = reply
    if not isinstance(data, tuple) or len(data) != 2:
        return False
    monomials, told = data
    if not _is_same(monomials, tower.monomials()):
        return False
    n = tower.height()
    if kind == "none":
        return reply == none_reply(tower, told) and accepts(tower, n, f, told)
    if kind != "answer" or not is_answer(tower, n, told):
        return False
    return derivative(tower, n, told) == f and reply == answer_reply(tower, told)
