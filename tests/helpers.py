"""What several test files need."""

import copy
import unittest

# Values that are no rationals, no polynomials and no texts.
ODD_VALUES = (
    None, True, False, 0, 1, -7, "", "0", "text", (), [], ((),), [()], (None,), (True,),
    (1,), (1, 2, 3), [1, 2], ("1", "2"), (1, "2"), (1, None), ((1, 2), 1), (1, (1, 2)),
    (True, 1), (1, True), (False, 1), (0, True), ((1, 1), (2, 1)), [(1, 1)], ([1, 1],),
    (2, 2), (0, 2), (1, 0), (0, 0), (1, -1), (-2, 4), (-3, -2), (0, -1),
)


def nested(depth, outer):
    """Returns a value that is nested this deep."""
    value = outer(())
    for _ in range(depth - 1):
        value = outer((value,))
    return value


def picture(value):
    """Returns what a value looks like: 1 and True differ, objects are what they hold."""
    if isinstance(value, (tuple, list)):
        return (type(value), [picture(item) for item in value])
    if hasattr(value, "__dict__") and not callable(value):
        return (type(value), [(name, picture(item)) for name, item in sorted(vars(value).items())])
    return (type(value), value)


def spoiled(value):
    """Returns values like this one, in each of which one part has a form that it cannot have."""
    if isinstance(value, tuple):
        found = [list(value), value + (None,), None, "word", 7]
        for at, item in enumerate(value):
            found += [value[:at] + (other,) + value[at + 1:] for other in spoiled(item)]
        return found
    if isinstance(value, str):
        return [word for word in ("word", "") if word != value] + [None, True, (value,)]
    if value in (0, 1):
        return [bool(value), None, str(value)]
    return [None, str(value), (value,)]


def some_spoiled(chance, value, count):
    """Returns at most so many of the spoiled values: those of the value itself, and others."""
    found = spoiled(value)
    if len(found) <= count:
        return found
    return found[:5] + chance.sample(found[5:], count - 5)


class PureCase(unittest.TestCase):
    """Calls functions twice and looks after their arguments."""

    def pure(self, function, *args):
        before = picture(copy.deepcopy(args))
        first = function(*args)
        self.assertEqual(picture(args), before, "an argument was changed")
        second = function(*args)
        self.assertEqual(picture(args), before, "an argument was changed")
        self.assertEqual(first, second, "the second call gives another result")
        self.assertIs(type(first), type(second))
        self.assert_plain(first)
        return first

    def pure_raises(self, error, function, *args):
        before = picture(copy.deepcopy(args))
        for _ in range(2):
            with self.assertRaises(error) as caught:
                function(*args)
        self.assertEqual(picture(args), before, "an argument was changed")
        return caught.exception

    def assert_plain(self, value):
        """Results are tuples, integers, strings, booleans and None."""
        if type(value) is tuple:
            for item in value:
                self.assert_plain(item)
        else:
            self.assertIn(type(value), (int, str, bool, type(None)))

    def assert_true(self, value):
        self.assertIs(value, True)

    def assert_false(self, value):
        self.assertIs(value, False)
