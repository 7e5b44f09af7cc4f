"""Texts of nets: a net printed, and the net of such a text."""

from wholeflow.errors import BadText
from wholeflow.forms import is_integer, is_word
from wholeflow.nets import (
    LEAST_PLACES, MOST_PLACES, MOST_STEPS, are_ins, are_outs, checked_net, has_unattended_circle,
    is_kind, share_plain_in,
)

NOTHING = "-"
# No number of a net has more digits, and Python does not read numbers of very many.
MOST_DIGITS = 4


def printed(net):
    """The text of the net."""
    places, steps = checked_net(net, 0)
    lines = [f"net {places}"]
    for name, kind, ins, outs in steps:
        lines.extend([f"step {name} {kind_text(kind)}", places_text("in", ins), places_text("out", outs)])
    return "".join([line + "\n" for line in lines])


def parse(text):
    """The net of a text."""
    lines = lines_of(text)
    places = read_places(lines)
    steps = []
    for at in range(1, len(lines), 3):
        steps.append(read_step(lines, at, places, tuple(steps)))
    return places, tuple(steps)


def kind_text(kind):
    """The words of a kind."""
    if kind[0] == "wait":
        return f"wait {kind[1]} {calendar_text(kind[2])}"
    return " ".join([NOTHING if part is None else str(part) for part in kind])


def calendar_text(calendar):
    """The word of a calendar."""
    if calendar is None:
        return NOTHING
    length, opening = calendar
    return ",".join([str(number) for number in (length,) + opening])


def places_text(word, places):
    """The line of a step's ins or outs."""
    return " ".join([word] + [str(place) for place in places])


def lines_of(text):
    """The lines of a text."""
    if not isinstance(text, str):
        raise BadText(0)
    lines = text.split("\n")
    return lines[:-1] if lines[-1] == "" else lines


def words_of(lines, at, word):
    """The words behind the first one of a line, which is to be this one."""
    # A text that ends too early is told by the number of its lines: it is that of the line that lacks.
    if at == len(lines):
        raise BadText(at)
    first, *words = lines[at].split(" ")
    if first != word:
        raise BadText(at)
    return words


def read_places(lines):
    """The number of places that the first line tells."""
    words = words_of(lines, 0, "net")
    if len(words) != 1 or not is_integer(read_number(words[0]), LEAST_PLACES, MOST_PLACES):
        raise BadText(0)
    return read_number(words[0])


def read_step(lines, at, places, steps):
    """The step whose three lines begin at this one, behind these other steps."""
    name, kind = read_head(lines, at, steps)
    ins = read_numbers(words_of(lines, at + 1, "in"))
    if not are_ins(ins, places) or any([share_plain_in(kind, ins, other) for other in steps]):
        raise BadText(at + 1)
    outs = read_numbers(words_of(lines, at + 2, "out"))
    step = (name, kind, ins, outs)
    if not are_outs(outs, places) or has_unattended_circle(steps + (step,)):
        raise BadText(at + 2)
    return step


def read_head(lines, at, steps):
    """The name and the kind that a line tells, behind these other steps."""
    words = words_of(lines, at, "step")
    if len(words) < 2 or len(steps) == MOST_STEPS:
        raise BadText(at)
    name, kind = words[0], read_kind(words[1:])
    if not is_word(name) or name in [step[0] for step in steps] or not is_kind(kind):
        raise BadText(at)
    return name, kind


def read_kind(words):
    """What the words of a kind stand for, be it a kind or not."""
    if words[0] == "wait" and len(words) == 3:
        return (words[0], read_number(words[1]), read_calendar(words[2]))
    if words[0] == "task" and len(words) == 5:
        word, queue, tries, lease, undo = words
        return (word, queue, read_number(tries), read_number(lease), None if undo == NOTHING else undo)
    return tuple(words)


def read_calendar(word):
    """What a word stands for as a calendar, be it one or not."""
    if word == NOTHING:
        return None
    length, *opening = read_numbers(word.split(","))
    return (length, tuple(opening))


def read_numbers(words):
    """The integers that words stand for, each None if it is none."""
    return tuple([read_number(word) for word in words])


def read_number(word):
    """The integer that a word stands for, in decimal digits without leading zeros; otherwise None."""
    if not 1 <= len(word) <= MOST_DIGITS or not all(["0" <= sign <= "9" for sign in word]):
        return None
    if word[0] == "0" and len(word) > 1:
        return None
    return int(word)
