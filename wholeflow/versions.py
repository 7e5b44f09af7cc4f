"""Versions: whether names are a run of a net, and which run just one of two nets has."""

from wholeflow.errors import BadValue
from wholeflow.forms import is_sequence, is_word
from wholeflow.nets import checked_net, follow, graph
from wholeflow.sound import START


def fits(net, names):
    """The number of the first name with which the names are no run, or None."""
    net = checked_net(net, 0)
    marking = START
    for at, name in enumerate(checked_words(names, 1)):
        marking = follow(net, marking, (name,))
        if marking is None:
            return at
    return None


def marking_after(net, names):
    """The marking to which a run leads."""
    net = checked_net(net, 0)
    marking = follow(net, START, checked_words(names, 1))
    if marking is None:
        raise BadValue(1)
    return marking


def unlike(one, other):
    """None if both nets have the same runs, otherwise a pair (names, which of them has the run)."""
    one = checked_net(one, 0)
    other = checked_net(other, 1)
    return first_unlike(taken_from(one), taken_from(other))


def checked_words(value, at):
    """The sequence of words that value is."""
    if not is_sequence(value) or not all([is_word(word) for word in value]):
        raise BadValue(at)
    return value


def taken_from(net):
    """For each marking of a run the markings behind the steps that a run may take there, by name."""
    table = graph(net, START)
    return {marking: {name: reached for name, reached in table[marking] if reached is not None}
            for marking in table}


def first_unlike(one, other):
    """What `unlike` returns, for what `taken_from` returns of both nets."""
    before = {(START, START): None}
    level = list(before)
    while len(level) > 0:
        later = []
        # Pairs of markings are met in the order of the first runs that come to both,
        # so the first pair that differs has the first name to tell.
        for pair in level:
            left, right = one[pair[0]], other[pair[1]]
            told = first_alone(left, right)
            if told is not None:
                return run_to(before, pair) + (told,), 0 if told in left else 1
            for name in left:
                reached = (left[name], right[name])
                if reached not in before:
                    before[reached] = (pair, name)
                    later.append(reached)
        level = later
    return None


def first_alone(left, right):
    """The first name that just one of both has, or None."""
    alone = [name for name in left if name not in right] + [name for name in right if name not in left]
    return min(alone) if len(alone) > 0 else None


def run_to(before, pair):
    """The names on the way to the pair; before tells the pair and the name ahead of each."""
    names = []
    while before[pair] is not None:
        pair, name = before[pair]
        names.append(name)
    return tuple(names[::-1])
