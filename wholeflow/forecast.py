"""Forecasts: when runs of a sound net without circles are finished."""

from wholeflow.errors import BadValue
from wholeflow.forms import is_integer, is_sequence_of
from wholeflow.nets import END_PLACE, checked_net, graph, is_enabled, step_names
from wholeflow.sound import START, first_wrong, is_taken

MOST_TIME = 1000


def has_circle(net):
    """Whether some run takes a step twice."""
    net = checked_net(net, 0)
    return is_circling(net, graph(net, START))


def span(net, times):
    """The least and the greatest finishing of all runs to the end alone."""
    net = checked_straight(net, 0)
    times = checked_times(net, times, 1)
    return min(finishings(net, lows(times))), max(finishings(net, highs(times)))


def shortest(net, times):
    """A run that is finished at the least finishing, with the lows as times."""
    net = checked_straight(net, 0)
    runs = finishings(net, lows(checked_times(net, times, 1)))
    return runs[min(runs)]


def longest(net, times):
    """A run that is finished at the greatest finishing, with the highs as times."""
    net = checked_straight(net, 0)
    runs = finishings(net, highs(checked_times(net, times, 1)))
    return runs[max(runs)]


def checked_straight(value, at):
    """The sound net without circles that value is, made of tuples."""
    net = checked_net(value, at)
    table = graph(net, START)
    if first_wrong(net, table) is not None or is_circling(net, table):
        raise BadValue(at)
    return net


def checked_times(net, value, at):
    """The times for the net that value is."""
    if not is_sequence_of(value, len(net[1])) or not all([is_time(pair) for pair in value]):
        raise BadValue(at)
    return value


def is_time(value):
    """Whether value is a pair (low, high)."""
    if not is_sequence_of(value, 2):
        return False
    low, high = value
    return is_integer(low, 0, MOST_TIME) and is_integer(high, low, MOST_TIME)


def lows(times):
    """The least time of each step."""
    return [low for low, _ in times]


def highs(times):
    """The greatest time of each step."""
    return [high for _, high in times]


def is_circling(net, table):
    """Whether some run takes a step twice; the table is that of the markings of runs."""
    return any([is_taken(reach(table, markings_behind(table, name)), name) for name in step_names(net)])


def markings_behind(table, name):
    """The markings of the table to which the step with this name leads."""
    return [reached for marking in table
            for other, reached in table[marking] if other == name and reached is not None]


def reach(table, markings):
    """The part of the table to which runs from these markings come."""
    found = {}
    waiting = list(markings)
    while len(waiting) > 0:
        marking = waiting.pop()
        if marking not in found:
            found[marking] = table[marking]
            waiting.extend([reached for _, reached in table[marking] if reached is not None])
    return found


def finishings(net, durations):
    """For each time at which some run to the end alone is finished, such a run.

    A state is a tuple of pairs (place, time): the places that have tokens, and since when.
    """
    runs = {((0, 0),): ()}
    waiting = list(runs)
    found = {}
    while len(waiting) > 0:
        state = waiting.pop()
        place, time = state[0]
        # A sound net has no other token beside that of the end.
        if place == END_PLACE:
            found[time] = runs[state]
        for name, reached in states_behind(net, durations, state):
            if reached not in runs:
                runs[reached] = runs[state] + (name,)
                waiting.append(reached)
    return found


def states_behind(net, durations, state):
    """A pair (name, state behind it) for each enabled step."""
    marking = [place for place, _ in state]
    return [(step[0], state_behind(step, duration, state))
            for step, duration in zip(net[1], durations) if is_enabled(step, marking)]


def state_behind(step, duration, state):
    """The state behind taking the step, which begins as soon as the last token of its ins stands."""
    ins, outs = step[2:]
    over = max([time for place, time in state if place in ins]) + duration
    kept = [(place, time) for place, time in state if place not in ins]
    return tuple(sorted(kept + [(place, over) for place in outs]))
