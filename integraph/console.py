"""The console: lines are entered, and each one has a reply."""

from integraph.errors import TooLarge
from integraph.integral import integrate
from integraph.replies import answer_reply, none_reply, plain_reply
from integraph.sheet import names_after

_MOST_LINES = 1000


def reply_to(names, line):
    """Returns the reply to a line over the definitions."""
    reply = plain_reply(names, line)
    if len(reply) == 3:
        return reply
    tower, f = reply
    kind, found = integrate(tower, tower.height(), f)
    if kind == "found":
        return answer_reply(tower, found)
    return none_reply(tower, found)


class Console:
    """A worksheet: the definitions and the entries so far."""

    def __init__(self):
        self.known = {}
        self.rows = []

    def enter(self, line):
        """Enters a line and returns its reply."""
        if len(self.rows) == _MOST_LINES:
            raise TooLarge("lines")
        reply = reply_to(self.known, line)
        self.rows.append((line, reply))
        self.known = names_after(self.known, line)
        return reply

    def entries(self):
        """Returns the list of the entries, in their order."""
        return list(self.rows)

    def names(self):
        """Returns a dict from the defined names to their full texts."""
        return dict(self.known)
