"""The points [41] to [49] once more, slowly and by their words, to compare with.

Like reference.py it takes nothing from the package, and is for small nets only.
"""

from itertools import product

from reference import END, TooLong, lead


def names_of(net):
    return tuple(step[0] for step in net[1])


def fits(net, names):
    """What [41] says of a sequence of words."""
    for at in range(len(names)):
        if lead(net, names[:at + 1]) is None:
            return at
    return None


def runs_of(net, many, most=3000):
    """For each number of names up to many the set of all runs of so many."""
    told = [{()}]
    for _ in range(many):
        longer = {run + (name,) for run in told[-1] for name in names_of(net)}
        told.append({run for run in longer if lead(net, run) is not None})
        if len(told[-1]) > most:
            raise TooLong
    return told


def unlike(one, other, many):
    """What [43] says of two nets whose runs differ within so many names; None if they do not."""
    for left, right in zip(runs_of(one, many), runs_of(other, many)):
        if left != right:
            names = min(left ^ right)
            return names, 0 if names in left else 1
    return None


def all_runs(net, names=()):
    """All runs of a net without a circle, each one behind what it begins with."""
    if len(set(names)) < len(names):
        raise TooLong
    told = [names]
    for name in names_of(net):
        if lead(net, names + (name,)) is not None:
            told += all_runs(net, names + (name,))
    return told


def has_circle(net):
    """Whether some run takes a step twice: one that does so for the first time has few names."""
    runs = [()]
    for _ in range(len(net[1]) + 1):
        longer = [run + (name,) for run in runs for name in names_of(net)]
        runs = [run for run in longer if lead(net, run) is not None]
        if any(len(set(run)) < len(run) for run in runs):
            return True
    return False


def finishing(net, durations, names):
    """What [47] says of a run to the end alone, when the steps take these times."""
    took = dict(zip(names_of(net), durations))
    stands = {0: 0}
    for name in names:
        _, _, ins, outs = [step for step in net[1] if step[0] == name][0]
        begins = max(stands.pop(place) for place in ins)
        for place in outs:
            stands[place] = begins + took[name]
    assert list(stands) == [1]
    return stands[1]


def runs_to_end(net):
    """All runs to the end alone, of a net without a circle."""
    return [names for names in all_runs(net) if lead(net, names) == END]


def span(net, times):
    """What [48] says, with all times from each low to each high."""
    runs = runs_to_end(net)
    choices = product(*[range(low, high + 1) for low, high in times])
    told = [finishing(net, durations, run) for durations in choices for run in runs]
    return min(told), max(told)


def span_of_ends(net, times):
    """Likewise, but of all times only the lows and the highs, for nets of more steps."""
    runs = runs_to_end(net)
    choices = product(*[sorted({low, high}) for low, high in times])
    told = [finishing(net, durations, run) for durations in choices for run in runs]
    return min(told), max(told)
