"""Calendars: which ticks are open, how many of them, and when so many have passed."""

from wholeflow.errors import BadValue
from wholeflow.forms import is_calendar, is_integer, is_tick

ALWAYS = (1, (0,))
MOST_OPEN = 1000


def is_open(calendar, tick):
    """Whether the tick is open by the calendar."""
    length, opening = checked_calendar(calendar, 0)
    return checked_tick(tick, 1) % length in opening


def open_ticks(calendar, first, last):
    """The number of open ticks from first on and below last."""
    calendar = checked_calendar(calendar, 0)
    first = checked_tick(first, 1)
    last = checked_tick(last, 2)
    return max(0, open_below(calendar, last) - open_below(calendar, first))


def due(calendar, first, ticks):
    """The first integer by which so many open ones have passed from first on."""
    calendar = checked_calendar(calendar, 0)
    first = checked_tick(first, 1)
    if not is_integer(ticks, 1, MOST_OPEN):
        raise BadValue(2)
    return open_tick(calendar, open_below(calendar, first) + ticks - 1) + 1


def checked_calendar(value, at):
    """The pair (length, open) that a calendar stands for."""
    if not is_calendar(value):
        raise BadValue(at)
    return ALWAYS if value is None else value


def checked_tick(value, at):
    """The tick that value is."""
    if not is_tick(value):
        raise BadValue(at)
    return value


def open_below(calendar, tick):
    """The number of open integers from 0 on and below the tick."""
    length, opening = calendar
    begun = [place for place in opening if place < tick % length]
    return tick // length * len(opening) + len(begun)


def open_tick(calendar, number):
    """The open integer with this number, the first one from 0 on having the number 0."""
    length, opening = calendar
    return number // len(opening) * length + opening[number % len(opening)]
