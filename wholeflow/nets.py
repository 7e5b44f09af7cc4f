"""Nets: their form, their markings, and what taking a step does.

The functions behind `after` take nets and markings that were checked and made of tuples.
"""

from wholeflow.errors import BadValue, Doubled
from wholeflow.forms import as_tuples, is_ascending, is_calendar, is_integer, is_sequence, is_sequence_of, is_word

END_PLACE = 1
LEAST_PLACES = 2
MOST_PLACES = 8
MOST_STEPS = 10
MOST_WAIT = 1000
MOST_TRIES = 5
MOST_LEASE = 1000


def is_kind(value):
    """Whether value is a kind of a step."""
    if not is_sequence(value) or len(value) == 0:
        return False
    word = value[0]
    if word == "plain" or word == "choice":
        return len(value) == 1
    if word == "signal":
        return len(value) == 2 and is_word(value[1])
    if word == "wait":
        return len(value) == 3 and is_integer(value[1], 1, MOST_WAIT) and is_calendar(value[2])
    return word == "task" and is_task_kind(value)


def is_task_kind(value):
    """Whether a sequence that begins with `task` is a kind."""
    if len(value) != 5:
        return False
    _, queue, tries, lease, undo = value
    if not is_word(queue) or not is_integer(tries, 1, MOST_TRIES):
        return False
    return is_integer(lease, 1, MOST_LEASE) and (undo is None or is_word(undo))


def is_marking(value, places):
    """Whether value is a marking of a net with so many places."""
    return is_ascending(value, 0, places - 1)


def are_outs(value, places):
    """Whether value is the outs of a step."""
    return is_marking(value, places) and len(value) > 0


def are_ins(value, places):
    """Whether value is the ins of a step."""
    return are_outs(value, places) and END_PLACE not in value


def is_step(value, places):
    """Whether value is a step, looked at without the other steps of its net."""
    if not is_sequence_of(value, 4):
        return False
    name, kind, ins, outs = value
    return is_word(name) and is_kind(kind) and are_ins(ins, places) and are_outs(outs, places)


def share_plain_in(kind, ins, other):
    """Whether a step of this kind, with these ins, shares one with another step, and one of both is plain."""
    if kind[0] != "plain" and other[1][0] != "plain":
        return False
    return any([place in other[2] for place in ins])


def agree(one, other):
    """Whether two steps have different names, and share no in that a plain one has."""
    return one[0] != other[0] and not share_plain_in(one[1], one[2], other)


def all_agree(steps):
    """Whether each two of the steps agree."""
    return all([agree(one, other) for at, one in enumerate(steps) for other in steps[:at]])


def leads_into(step, others):
    """Whether an out of the step is among the ins of one of the others."""
    return any([place in other[2] for place in step[3] for other in others])


def has_unattended_circle(steps):
    """Whether there is a circle of plain steps and waits."""
    left = [step for step in steps if step[1][0] == "plain" or step[1][0] == "wait"]
    while True:
        # A step that leads into none of those left is in no circle of them.
        kept = [step for step in left if leads_into(step, left)]
        if len(kept) == len(left):
            return len(left) > 0
        left = kept


def is_net(value):
    """Whether value is a net."""
    if not is_sequence_of(value, 2):
        return False
    places, steps = value
    if not is_integer(places, LEAST_PLACES, MOST_PLACES):
        return False
    if not is_sequence(steps) or len(steps) > MOST_STEPS:
        return False
    if not all([is_step(step, places) for step in steps]):
        return False
    return all_agree(steps) and not has_unattended_circle(steps)


def checked_net(value, at):
    """The net that value is, made of tuples."""
    if not is_net(value):
        raise BadValue(at)
    return as_tuples(value)


def checked_marking(net, value, at):
    """The marking of the net that value is, a tuple."""
    if not is_marking(value, net[0]):
        raise BadValue(at)
    return tuple(value)


def enabled(net, marking):
    """The names of the enabled steps, in the sequence of the steps."""
    net = checked_net(net, 0)
    marking = checked_marking(net, marking, 1)
    return tuple([step[0] for step in net[1] if is_enabled(step, marking)])


def after(net, marking, name):
    """The marking behind taking the step with this name."""
    net = checked_net(net, 0)
    marking = checked_marking(net, marking, 1)
    step = enabled_step(net, marking, name)
    if step is None:
        raise BadValue(2)
    place = doubled_place(step, marking)
    if place is not None:
        raise Doubled(place)
    return marking_behind(step, marking)


def step_names(net):
    """The names of the steps, in their sequence."""
    return tuple([step[0] for step in net[1]])


def is_enabled(step, marking):
    """Whether all ins of the step have tokens."""
    return all([place in marking for place in step[2]])


def enabled_step(net, marking, name):
    """The enabled step with this name, or None."""
    for step in net[1]:
        if step[0] == name and is_enabled(step, marking):
            return step
    return None


def doubled_place(step, marking):
    """The least place that has two tokens behind taking the step, or None."""
    ins, outs = step[2:]
    for place in outs:
        if place in marking and place not in ins:
            return place
    return None


def marking_behind(step, marking):
    """The marking behind taking an enabled step that does not double."""
    ins, outs = step[2:]
    kept = [place for place in marking if place not in ins]
    return tuple(sorted(kept + list(outs)))


def follow(net, marking, names):
    """The marking to which the names lead, or None if they are no run from this one."""
    for name in names:
        step = enabled_step(net, marking, name)
        if step is None or doubled_place(step, marking) is not None:
            return None
        marking = marking_behind(step, marking)
    return marking


def moves(net, marking):
    """A pair (name, marking behind it) for each enabled step, None if it doubles, by name."""
    found = []
    for step in sorted(net[1], key=lambda row: row[0]):
        if is_enabled(step, marking):
            doubles = doubled_place(step, marking) is not None
            found.append((step[0], None if doubles else marking_behind(step, marking)))
    return found


def graph(net, start):
    """The moves of each marking to which a run from start comes."""
    table = {}
    waiting = [start]
    while len(waiting) > 0:
        marking = waiting.pop()
        if marking not in table:
            table[marking] = moves(net, marking)
            waiting.extend([reached for _, reached in table[marking] if reached is not None])
    return table
