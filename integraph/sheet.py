"""Lines of worksheets: their commands, names that stand for texts, and texts of answers."""

from integraph.build import expression
from integraph.errors import NoText, Refused, TooLarge
from integraph.printing import parse, show
from integraph.rational import format_rational
from integraph.words import LETTERS, WORDS

_COMMANDS = ("let", "derive", "integrate", "equal")
_MOST_LETTERS = 12
_MOST_OF_LINE = 2000
_MOST_OF_TEXT = 4000


def is_name(value):
    """Tells whether a value is a name."""
    if not isinstance(value, str) or value in WORDS or value in _COMMANDS:
        return False
    return 1 <= len(value) <= _MOST_LETTERS and all([sign in LETTERS for sign in value])


def full_text(names, text):
    """Returns the text with the full texts in place of the names."""
    pieces = _pieces(names, text)
    if sum([len(piece) for piece in pieces]) > _MOST_OF_TEXT:
        raise TooLarge("text")
    return "".join(pieces)


def _pieces(names, text):
    """Returns the list of the strings of which the full text is made."""
    found = []
    at = 0
    while at < len(text):
        end = at
        while end < len(text) and text[end] in LETTERS:
            end = end + 1
        if end == at:
            end = at + 1
            found.append(text[at:end])
        else:
            found.append(_meaning(names, text[at:end]))
        at = end
    return found


def _meaning(names, word):
    if word in WORDS:
        return word
    if word not in names:
        raise Refused("name")
    return "(" + names[word] + ")"


def read_line(names, line):
    """Returns the command of a line."""
    if not _is_line(line):
        raise NoText(0)
    form = _form(line)
    word, places = form[0], form[-1]
    # All texts are looked after for one refusal before any of them is for the next one.
    for text, _ in places:
        _pieces(names, text)
    texts = [full_text(names, text) for text, _ in places]
    trees = [_expression_at(text, at) for text, (_, at) in zip(texts, places)]
    if word == "let":
        return (word, form[1], texts[0])
    return (word,) + tuple(trees)


def _is_line(value):
    """Tells whether a value is a string of the characters and the length of a line."""
    if not isinstance(value, str) or len(value) > _MOST_OF_LINE:
        return False
    # The percent sign stands between these two ranges of characters.
    return all([" " <= sign <= "$" or "&" <= sign <= "~" for sign in value])


def _expression_at(text, at):
    try:
        return parse(text)
    except NoText:
        raise NoText(at) from None


def _form(line):
    """Returns the word of the command, the name for a definition, and the texts.

    The texts are pairs of a text and the index in the line at which it begins.
    """
    start, end = _stripped(line, 0, len(line))
    if start == end or line[start] == "#":
        return ("empty", ())
    behind = line.find(" ", start, end)
    if behind == -1 or line[start:behind] not in _COMMANDS:
        raise NoText(0)
    word = line[start:behind]
    if word == "let":
        return _form_of_definition(line, behind, end)
    if word == "equal":
        middle = _place_of(line, ";", behind, end)
        return (word, (_text_at(line, behind, middle), _text_at(line, middle + 1, end)))
    return (word, (_text_at(line, behind, end),))


def _form_of_definition(line, behind, end):
    middle = _place_of(line, "=", behind, end)
    low, high = _stripped(line, behind, middle)
    if not is_name(line[low:high]):
        raise NoText(0)
    return ("let", line[low:high], (_text_at(line, middle + 1, end),))


def _place_of(line, sign, start, end):
    """Returns the index of the first such sign in a part of the line."""
    at = line.find(sign, start, end)
    if at == -1:
        raise NoText(0)
    return at


def _text_at(line, start, end):
    """Returns the text in a part of the line, and where it begins."""
    start, end = _stripped(line, start, end)
    text = line[start:end]
    if text == "" or "=" in text or ";" in text:
        raise NoText(0)
    return text, start


def _stripped(line, start, end):
    """Returns the bounds of a part of the line without the spaces at its ends."""
    while start < end and line[start] == " ":
        start = start + 1
    while start < end and line[end - 1] == " ":
        end = end - 1
    return start, end


def names_after(names, line):
    """Returns a new dict of the definitions that hold after the line."""
    found = dict(names)
    try:
        command = read_line(names, line)
    except (NoText, Refused, TooLarge):
        return found
    if command[0] == "let":
        found[command[1]] = command[2]
    return found


def answer_text(tower, answer):
    """Returns the text of an answer over the height of the tower."""
    part, logs = answer
    pieces = []
    if len(logs) == 0 or not tower.field(tower.height()).is_zero(part):
        pieces.append(show(expression(tower, part)))
    for r, s in logs:
        numbers = ", ".join([format_rational(c) for c in r])
        values = ", ".join([show(expression(tower, e)) for e in s])
        pieces.append(f"roots({numbers}; {values})")
    return " + ".join(pieces)
