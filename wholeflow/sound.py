"""Soundness: what is wrong with a net, grounds that nothing is, ways to the end.

A table is what `graph` returns: the moves of each marking of a set of these.
"""

from wholeflow.errors import BadGrounds, BadValue
from wholeflow.forms import as_tuples, is_integer, is_sequence, is_sequence_of
from wholeflow.nets import (
    checked_marking, checked_net, doubled_place, enabled_step, follow, graph, is_marking, moves,
    step_names,
)

START = (0,)
END = (1,)
WORDS = ("doubled", "left", "stuck", "never")
MOST_DEPTH = 10 ** 6


def unsound(net):
    """None if the net is sound, otherwise a pair (word, names) that shows the wrong."""
    net = checked_net(net, 0)
    return first_wrong(net, graph(net, START))


def shows(net, word, names):
    """Whether the names show the wrong that the word tells."""
    net = checked_net(net, 0)
    if word not in WORDS:
        raise BadValue(1)
    if not is_sequence(names):
        return False
    if word == "doubled":
        return is_doubling(net, names)
    if word == "never":
        return len(names) == 1 and is_never_taken(net, names[0])
    marking = follow(net, START, names)
    if marking is None:
        return False
    if word == "left":
        return is_leaving(marking)
    return END not in graph(net, marking)


def grounds(net):
    """The grounds of all markings to which runs come, or None if the net is not sound."""
    net = checked_net(net, 0)
    table = graph(net, START)
    if first_wrong(net, table) is not None:
        return None
    runs = ways(table, START)
    ranks = ranks_to_end(table)
    triples = [(marking, len(runs[marking]), ranks[marking]) for marking in sorted(table)]
    return tuple(triples), step_names(net)


def grounds_hold(net, value):
    """True if value is grounds of the net; BadGrounds if not."""
    net = checked_net(net, 0)
    if not is_sequence_of(value, 2) or not is_sequence(value[0]) or not is_sequence(value[1]):
        raise BadGrounds(0)
    triples, names = value
    at = first_misshapen(net, triples)
    if at is not None:
        raise BadGrounds(at)
    triples = as_tuples(triples)
    table = {marking: moves(net, marking) for marking, _, _ in triples}
    at = first_ungrounded(table, triples)
    if at is not None:
        raise BadGrounds(at)
    if START not in table or not are_all_taken(net, table, names):
        raise BadGrounds(len(triples))
    return True


def finish(net, marking):
    """The first of the shortest runs from the marking to the end alone, or None."""
    net = checked_net(net, 0)
    marking = checked_marking(net, marking, 1)
    return ways(graph(net, marking), marking).get(END)


def ways(table, start):
    """For each marking of the table the first of the shortest runs to it from start."""
    runs = {start: ()}
    level = [start]
    while len(level) > 0:
        later = []
        # Runs are met in their order, as each level and all moves are in theirs:
        # so the first one that comes to a marking is the one to keep.
        for marking in level:
            for name, reached in table[marking]:
                if reached is not None and reached not in runs:
                    runs[reached] = runs[marking] + (name,)
                    later.append(reached)
        level = later
    return runs


def sources_of(table):
    """For each marking of the table those from which a step leads to it."""
    sources = {marking: [] for marking in table}
    for marking in table:
        for _, reached in table[marking]:
            if reached is not None:
                sources[reached].append(marking)
    return sources


def ranks_to_end(table):
    """The fewest steps to the end alone, for each marking that has a run to it."""
    sources = sources_of(table)
    ranks = {END: 0} if END in table else {}
    level = list(ranks)
    while len(level) > 0:
        earlier = []
        for marking in level:
            for source in sources[marking]:
                if source not in ranks:
                    ranks[source] = ranks[marking] + 1
                    earlier.append(source)
        level = earlier
    return ranks


def first_wrong(net, table):
    """What `unsound` returns, for the table of the markings of runs."""
    runs = ways(table, START)
    crowded = crowded_sequences(table, runs)
    if len(crowded) > 0:
        _, names, word = min(crowded)
        return word, names
    ranks = ranks_to_end(table)
    stuck = [(len(run), run) for marking, run in runs.items() if marking not in ranks]
    if len(stuck) > 0:
        return "stuck", min(stuck)[1]
    for name in step_names(net):
        if not is_taken(table, name):
            return "never", (name,)
    return None


def crowded_sequences(table, runs):
    """Triples (length, names, word) of what doubles or leaves, the first shortest among them."""
    found = []
    for marking, run in runs.items():
        if is_leaving(marking):
            found.append((len(run), run, "left"))
        for name, reached in table[marking]:
            if reached is None:
                found.append((len(run) + 1, run + (name,), "doubled"))
    return found


def is_leaving(marking):
    """Whether the marking has the end and another place."""
    return len(marking) > 1 and END[0] in marking


def is_taken(table, name):
    """Whether the step with this name is taken, and does not double, in a marking of the table."""
    return any([(name == other and reached is not None)
                for marking in table for other, reached in table[marking]])


def is_never_taken(net, name):
    """Whether name is that of a step of the net which no run takes."""
    return name in step_names(net) and not is_taken(graph(net, START), name)


def is_doubling(net, names):
    """Whether all but the last name are a run, and the last one doubles behind it."""
    if len(names) == 0:
        return False
    marking = follow(net, START, names[:-1])
    if marking is None:
        return False
    step = enabled_step(net, marking, names[-1])
    return step is not None and doubled_place(step, marking) is not None


def first_misshapen(net, triples):
    """The number of the first triple whose form or place in the sequence is wrong, or None."""
    before = None
    for at, triple in enumerate(triples):
        if not is_triple(net, triple):
            return at
        marking = tuple(triple[0])
        if before is not None and marking <= before:
            return at
        before = marking
    return None


def is_triple(net, value):
    """Whether value is a triple of a marking, a depth and a rank."""
    if not is_sequence_of(value, 3):
        return False
    marking, depth, rank = value
    if not is_marking(marking, net[0]):
        return False
    return is_integer(depth, 0, MOST_DEPTH) and is_integer(rank, 0, MOST_DEPTH)


def first_ungrounded(table, triples):
    """The number of the first triple that the others do not bear out, or None."""
    ranks = {marking: rank for marking, _, rank in triples}
    nearest = nearest_sources(table, triples)
    for at, (marking, depth, rank) in enumerate(triples):
        if (depth == 0) != (marking == START) or (rank == 0) != (marking == END):
            return at
        if is_leaving(marking):
            return at
        if marking != START and not nearest.get(marking, depth) < depth:
            return at
        # What doubles has None in the place of a marking, which is not among them either.
        if any([reached not in ranks for _, reached in table[marking]]):
            return at
        if marking != END and not any([ranks[reached] < rank for _, reached in table[marking]]):
            return at
    return None


def nearest_sources(table, triples):
    """For each marking to which a step of a triple leads the least depth of such a triple."""
    nearest = {}
    for marking, depth, _ in triples:
        for _, reached in table[marking]:
            if reached is not None:
                nearest[reached] = min(nearest.get(reached, depth), depth)
    return nearest


def are_all_taken(net, table, names):
    """Whether names are those of all steps, each of which is taken in the table."""
    if tuple(names) != step_names(net):
        return False
    return all([is_taken(table, name) for name in names])
