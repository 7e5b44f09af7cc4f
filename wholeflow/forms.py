"""The forms of plain values: integers, sequences, words, ticks, calendars."""

from wholeflow.errors import BadValue

MOST_TICK = 10 ** 6
MOST_LETTERS = 8
MOST_LENGTH = 28


def require(holds, at):
    """BadValue(at) for what does not hold."""
    if not holds:
        raise BadValue(at)


def is_number(value):
    """Whether value is an integer."""
    # Python counts True and False as integers, the document does not.
    return isinstance(value, int) and not isinstance(value, bool)


def is_integer(value, least, most):
    """Whether value is an integer from least to most."""
    return is_number(value) and least <= value <= most


def is_sequence(value):
    """Whether value is a list or a tuple."""
    return isinstance(value, (list, tuple))


def is_sequence_of(value, many):
    """Whether value is a sequence of just so many things."""
    return is_sequence(value) and len(value) == many


def is_ascending(value, least, most):
    """Whether value is a sequence of different integers from least to most, ascending."""
    if not is_sequence(value):
        return False
    lowest = least
    for number in value:
        if not is_integer(number, lowest, most):
            return False
        lowest = number + 1
    return True


def is_word(value):
    """Whether value is a string of 1 to 8 letters a to z."""
    if not isinstance(value, str) or not 1 <= len(value) <= MOST_LETTERS:
        return False
    return all(["a" <= letter <= "z" for letter in value])


def is_tick(value):
    """Whether value is a tick."""
    return is_integer(value, 0, MOST_TICK)


def is_calendar(value):
    """Whether value is None or a pair (length, open)."""
    if value is None:
        return True
    if not is_sequence_of(value, 2):
        return False
    length, opening = value
    if not is_integer(length, 1, MOST_LENGTH):
        return False
    return is_ascending(opening, 0, length - 1) and len(opening) > 0


def as_tuples(value):
    """The value with tuples in the place of lists, at every level."""
    if is_sequence(value):
        return tuple([as_tuples(part) for part in value])
    return value
