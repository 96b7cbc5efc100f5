"""Logs: entries written as text, read back, and looked after."""

from integraph.errors import Malformed, NoText
from integraph.forms import is_integer
from integraph.rational import format_integer, parse_digits
from integraph.replies import is_right
from integraph.sheet import names_after
from integraph.words import DIGITS, LETTERS

_MOST_LETTERS = 12
_MOST_OPEN = 60


def write_data(value):
    """Returns the written form of data."""
    pieces = []
    _write(pieces, value, 0)
    return "".join(pieces)


def _write(pieces, value, many):
    """Appends the written form of a value that stands within so many tuples."""
    if isinstance(value, tuple):
        if many == _MOST_OPEN:
            raise Malformed("tuples that are nested too deep")
        pieces.append("(")
        for at, item in enumerate(value):
            if at > 0:
                pieces.append(" ")
            _write(pieces, item, many + 1)
        pieces.append(")")
    elif is_integer(value):
        pieces.append(format_integer(value))
    elif _is_word(value):
        pieces.append(value)
    else:
        raise Malformed("a value that is no data")


def _is_word(value):
    """Tells whether a value is a string of 1 to 12 small letters."""
    if not isinstance(value, str) or not 1 <= len(value) <= _MOST_LETTERS:
        return False
    return all([sign in LETTERS for sign in value])


def read_data(text):
    """Returns the data with this written form."""
    if not isinstance(text, str):
        raise NoText(0)
    # The items so far of each tuple that is open; the first list is for the whole text.
    rows = [[]]
    at = 0
    while len(rows[0]) == 0:
        at = _read_piece(text, at, rows)
    if at < len(text):
        raise NoText(at)
    return rows[0][0]


def _read_piece(text, at, rows):
    """Reads one parenthesis, number or word, with the space before it; returns its end."""
    inner = rows[-1]
    closing = len(rows) > 1 and text[at:at + 1] == ")"
    if closing:
        rows.pop()
        rows[-1].append(tuple(inner))
        return at + 1
    if len(inner) > 0:
        if text[at:at + 1] != " ":
            raise NoText(at)
        at = at + 1
    sign = text[at:at + 1]
    if sign == "(" and len(rows) <= _MOST_OPEN:
        rows.append([])
        return at + 1
    if sign != "" and sign in LETTERS:
        end = _end_of_run(text, at, LETTERS, _MOST_LETTERS)
        inner.append(text[at:end])
        return end
    end, value = _read_integer(text, at)
    inner.append(value)
    return end


def _end_of_run(text, at, signs, most):
    """Returns the end of the characters from here on, at most so many, that are of these."""
    end = at
    while end < len(text) and end - at < most and text[end] in signs:
        end = end + 1
    return end


def _read_integer(text, at):
    """Returns the end and the value of the integer that begins here."""
    start = at
    if text[at:at + 1] == "-":
        start = at + 1
    end = _end_of_run(text, start, DIGITS, len(text))
    if end == start:
        raise NoText(start)
    if text[start] == "0":
        # No digit follows a zero that leads, and it has no minus.
        if start > at:
            raise NoText(start)
        return start + 1, 0
    value = parse_digits(text[start:end])
    if start > at:
        value = -value
    return end, value


def write_log(entries):
    """Returns the written form of a list of entries."""
    return "".join([_written_entry(entry) for entry in entries])


def _written_entry(entry):
    if not isinstance(entry, tuple) or len(entry) != 2:
        raise Malformed("an entry that is no pair")
    line, reply = entry
    if not isinstance(reply, tuple) or len(reply) != 3:
        raise Malformed("a reply that is no triple")
    kind, text, data = reply
    if not _is_one_line(line) or not _is_one_line(text) or not _is_word(kind):
        raise Malformed("a line, a kind or a text of another form")
    return f"> {line}\n= {kind} {text}\n# {write_data(data)}\n"


def _is_one_line(value):
    return isinstance(value, str) and "\n" not in value


def read_log(text):
    """Returns the list of the entries with this written form."""
    if not isinstance(text, str):
        raise NoText(0)
    rows = text.split("\n")
    found = []
    for at, row in enumerate(rows[:-1]):
        if at % 3 == 0:
            line = _behind_mark(at, row, "> ")
        elif at % 3 == 1:
            kind, reply = _read_reply(at, row)
        else:
            found.append((line, (kind, reply, _read_row(at, row))))
    if rows[-1] != "" or len(rows) != 3 * len(found) + 1:
        raise NoText(len(rows) - 1)
    return found


def _behind_mark(at, row, mark):
    if not row.startswith(mark):
        raise NoText(at)
    return row[len(mark):]


def _read_reply(at, row):
    """Returns the kind and the text of the reply in a row."""
    kind, space, text = _behind_mark(at, row, "= ").partition(" ")
    if space == "" or not _is_word(kind):
        raise NoText(at)
    return kind, text


def _read_row(at, row):
    """Returns the data in a row."""
    written = _behind_mark(at, row, "# ")
    try:
        return read_data(written)
    except NoText:
        raise NoText(at) from None


def first_wrong(entries):
    """Returns the index of the first entry that is not right, or -1."""
    names = {}
    for at, entry in enumerate(entries):
        if not is_right(names, entry):
            return at
        names = names_after(names, entry[0])
    return -1
