"""The points [28] to [39] once more, slowly and by their words, to compare with.

Nothing here is taken from the package. Sequences are listed one by one, in all their
number, so it is for small nets only.
"""

END = (1,)


class TooLong(Exception):
    """There are more sequences than a test has time for."""


def take(step, marking):
    """None if the step is not enabled, otherwise a pair (tokens behind it, doubled places)."""
    _, _, ins, outs = step
    if not set(ins) <= set(marking):
        return None
    tokens = [place for place in marking if place not in ins] + list(outs)
    return tuple(sorted(tokens)), sorted({p for p in tokens if tokens.count(p) > 1})


def lead(net, names, marking=(0,)):
    """The marking behind a run, or None for what is no run."""
    for name in names:
        steps = [step for step in net[1] if step[0] == name]
        taken = take(steps[0], marking) if steps else None
        if taken is None or taken[1]:
            return None
        marking = taken[0]
    return marking


def closure(net, start=(0,)):
    """All markings to which runs from start come."""
    found = {start}
    while True:
        more = set(found)
        for marking in found:
            for step in net[1]:
                taken = take(step, marking)
                if taken is not None and not taken[1]:
                    more.add(taken[0])
        if more == found:
            return found
        found = more


def doubling(net, names):
    """Whether the sequence doubles."""
    if len(names) == 0:
        return False
    marking = lead(net, names[:-1])
    if marking is None:
        return False
    takes = [take(step, marking) for step in net[1] if step[0] == names[-1]]
    return any(taken is not None and bool(taken[1]) for taken in takes)


def leaving(net, names):
    """Whether the names are a run that leaves."""
    marking = lead(net, names)
    return marking is not None and 1 in marking and marking != END


def sticking(net, names):
    """Whether the names are a run that is stuck."""
    marking = lead(net, names)
    return marking is not None and END not in closure(net, marking)


def lost(net, name):
    """Whether no run has the name of this step."""
    steps = [step for step in net[1] if step[0] == name]
    for marking in closure(net):
        taken = take(steps[0], marking)
        if taken is not None and not taken[1]:
            return False
    return True


def first_sequence(net, start, many, is_right):
    """The first of the shortest sequences of at most so many names that is right, or None.

    All but the last name of each sequence are a run from start.
    """
    names = sorted(step[0] for step in net[1])
    runs = [()]
    if is_right(()):
        return ()
    for _ in range(many):
        sequences = sorted(run + (name,) for run in runs for name in names)
        for sequence in sequences:
            if is_right(sequence):
                return sequence
        runs = [sequence for sequence in sequences if lead(net, sequence, start) is not None]
        if len(runs) > 800:
            raise TooLong
    return None


def unsound(net):
    """What [36] says of a net."""
    many = len(closure(net)) + 1

    def is_wrong(names):
        return doubling(net, names) or leaving(net, names)

    names = first_sequence(net, (0,), many, is_wrong)
    if names is not None:
        return ("doubled" if doubling(net, names) else "left"), names
    if any(END not in closure(net, marking) for marking in closure(net)):
        return "stuck", first_sequence(net, (0,), many, lambda names: sticking(net, names))
    for step in net[1]:
        if lost(net, step[0]):
            return "never", (step[0],)
    return None


def finish(net, marking):
    """What [40] says of a marking."""
    if END not in closure(net, marking):
        return None
    many = len(closure(net, marking))
    return first_sequence(net, marking, many, lambda names: lead(net, names, marking) == END)


def leads(net, marking):
    """The pairs (marking behind, doubled places) of all steps enabled in the marking."""
    takes = [take(step, marking) for step in net[1]]
    return [taken for taken in takes if taken is not None]


def wrong_triple(net, triples, at):
    """Whether the triple with this number is not as [38] asks."""
    marking, depth, rank = triples[at]
    if (depth == 0) != (marking == (0,)) or (rank == 0) != (marking == END):
        return True
    if 1 in marking and marking != END:
        return True
    lower = [row for row in triples if row[1] < depth]
    if marking != (0,) and not any((marking, []) in leads(net, row[0]) for row in lower):
        return True
    markings = [row[0] for row in triples]
    if any(doubled or behind not in markings for behind, doubled in leads(net, marking)):
        return True
    nearer = [row[0] for row in triples if row[2] < rank]
    return marking != END and not any(behind in nearer for behind, _ in leads(net, marking))


def grounds_fault(net, triples, names):
    """The number that BadGrounds tells of triples of the right form, or None for grounds."""
    for at in range(len(triples)):
        if wrong_triple(net, triples, at):
            return at
    markings = [row[0] for row in triples]
    told = tuple(step[0] for step in net[1])
    if (0,) not in markings or tuple(names) != told:
        return len(triples)
    if any(all(take(step, marking) is None for marking in markings) for step in net[1]):
        return len(triples)
    return None
