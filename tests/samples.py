"""Nets and wrong values that several tests use."""

PLAIN = ("plain",)
CHOICE = ("choice",)
SIGNAL = ("signal", "go")
WAIT = ("wait", 5, None)
TASK = ("task", "pens", 2, 10, "bin")


def step(name, kind, ins, outs):
    return (name, kind, tuple(ins), tuple(outs))


# The example of section 1.
LETTER = (3, (
    step("write", TASK, [0], [2]),
    step("check", CHOICE, [2], [1]),
    step("again", CHOICE, [2], [0]),
))

# A row with a step of each of the five kinds.
ROW = (6, (
    step("a", TASK, [0], [2]),
    step("b", SIGNAL, [2], [3]),
    step("c", ("wait", 7, (7, (0, 1, 4))), [3], [4]),
    step("d", PLAIN, [4], [5]),
    step("e", CHOICE, [5], [1]),
))

# One way of several: the long one has the first name.
CHOICES = (4, (
    step("long", CHOICE, [0], [2]),
    step("short", CHOICE, [0], [1]),
    step("rest", TASK, [2], [3]),
    step("last", WAIT, [3], [1]),
))

# Two parts side by side, the steps not in the order of their names.
SIDES = (6, (
    step("split", PLAIN, [0], [2, 3]),
    step("right", SIGNAL, [3], [5]),
    step("left", TASK, [2], [4]),
    step("join", PLAIN, [4, 5], [1]),
))

# A circle with two parts side by side in it.
ROUND = (7, (
    step("split", TASK, [0], [2, 3]),
    step("x", CHOICE, [2], [4]),
    step("y", CHOICE, [3], [5]),
    step("join", WAIT, [4, 5], [6]),
    step("back", SIGNAL, [6], [0]),
    step("out", TASK, [6], [1]),
))

SOUND = (LETTER, ROW, CHOICES, SIDES, ROUND)

# The second token comes back to a place that has one: behind ("aa", "b").
DOUBLES = (4, (
    step("c", CHOICE, [3], [1]),
    step("b", CHOICE, [2], [3]),
    step("aa", TASK, [0], [2, 3]),
))

# A part is left over at the end.
LEAVES = (4, (
    step("a", TASK, [0], [2, 3]),
    step("b", CHOICE, [2], [1]),
    step("c", CHOICE, [2], [3]),
))

# The choice of `trap` leads where nothing goes on.
STICKS = (4, (
    step("trap", CHOICE, [0], [2]),
    step("ok", CHOICE, [0], [3]),
    step("on", CHOICE, [3], [1]),
))

# `two` and `three` wait for a token that never comes.
NEVER = (4, (
    step("one", CHOICE, [0], [1]),
    step("two", CHOICE, [0, 2], [1]),
    step("three", CHOICE, [3], [1]),
))

UNSOUND = (DOUBLES, LEAVES, STICKS, NEVER)

# Things that are neither a list nor a tuple.
NO_SEQUENCES = (None, True, False, 0, 1, -1, 10 ** 30, "", "a", "abc")

# Things of other kinds than integers, and integers beyond the bounds of ticks.
NO_INTEGERS = (None, True, False, "", "0", "a", (), [], (0,), [1])
NO_TICKS = NO_INTEGERS + (-1, 10 ** 6 + 1, 10 ** 30, -10 ** 30)

# Calendars: of length 1 and 28, with all ticks open and with a single one, of plain days.
CALENDARS = (
    None, (1, (0,)), (2, (1,)), (7, (0, 1, 2, 3, 4)), (7, (6,)), (5, (0, 2, 3)), (7, tuple(range(7))),
    (28, (0,)), (28, (27,)), (28, tuple(range(28))), (28, (3, 4, 9, 10, 20, 27)), (28, tuple(range(1, 28))),
)

NO_CALENDARS = (
    (0, (0,)), (29, (0,)), (-7, (0,)), (7, (7,)), (7, (-1,)), (1, (1,)), (28, (28,)), (7, (0, 7)), (7, ()), [7, []],
    (7, (1, 0)), (7, (1, 1)), (True, (0,)), (7, (True,)), (7, (False, 1)), (7, 1), (7, None), (7, "0"), (7, ("0",)),
    (7, ((0,),)), (7,), (7, (0,), None), (), [], "", "7", "ab", 7, 0, False, True, (None, (0,)), ((0,), 7),
    ((7, (0,)),), (10 ** 30, (0,)), ("7", (0,)), (7, (0, 10 ** 30)),
)

NO_NETS = NO_SEQUENCES + (
    (), [], (3,), (3, (), ()), (3, None), (3, "steps"), (3, 0), (3, (None,)), (3, ((),)),
    (1, ()), (9, ()), (True, ()), ("3", ()), (None, ()), ((3, ()),), LETTER[1],
)


def as_lists(value):
    """The value with lists in the place of tuples, at every level."""
    if isinstance(value, (list, tuple)):
        return [as_lists(part) for part in value]
    return value


def mixed(value, depth=0):
    """The value with lists and tuples in turn, by level."""
    if isinstance(value, (list, tuple)):
        parts = [mixed(part, depth + 1) for part in value]
        return parts if depth in (0, 3) else tuple(parts)
    return value


def is_plain(value):
    """Whether the value is built of plain tuples, integers, strings and None."""
    if isinstance(value, tuple):
        return type(value) is tuple and all(is_plain(part) for part in value)
    return value is None or type(value) in (int, str)
