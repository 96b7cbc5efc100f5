"""The forms of certificates: what can be told of a value before its parts are looked at."""


def is_index_tuple(value, count):
    """Tells whether a value is an ascending tuple of integers from 0 to count - 1."""
    if not isinstance(value, tuple):
        return False
    least = 0
    for at in value:
        if not is_integer(at) or at < least or at >= count:
            return False
        least = at + 1
    return True


def is_integer(value):
    """Tells whether a value is an integer; True and False are none."""
    return isinstance(value, int) and not isinstance(value, bool)


def is_element_tuple(tower, n, value):
    """Tells whether a value is a tuple of elements of the level n."""
    if not isinstance(value, tuple):
        return False
    return all([tower.field(n).is_element(item) for item in value])


def has_shape(value, word, count):
    """Tells whether a value is a tuple of so many items, the first of which is the word."""
    return isinstance(value, tuple) and len(value) == count and count > 0 and value[0] == word
