"""Nets made by chance, the same ones in each run."""

import random

from samples import CHOICE, PLAIN, SIGNAL, TASK, WAIT

from wholeflow.nets import is_net

KINDS = (PLAIN, CHOICE, SIGNAL, WAIT, TASK)
LETTERS = "abcdefghij"


def split_in_row(steps, at, place):
    ins, outs = steps[at]
    return steps[:at] + [(ins, [place]), ([place], outs)] + steps[at + 1:]


def add_choice(steps, at):
    return steps + [steps[at]]


def add_circle(steps, at):
    ins, outs = steps[at]
    return steps + [(outs, ins)]


def split_in_sides(steps, at, place):
    ins, outs = steps[at]
    a, b, c, d = range(place, place + 4)
    sides = [(ins, [a, b]), ([a], [c]), ([b], [d]), ([c, d], outs)]
    return steps[:at] + sides + steps[at + 1:]


def grown(chance, most_places, most_steps):
    """The ins and outs of a net that grew from one step, and its number of places."""
    places, steps = 2, [([0], [1])]
    for _ in range(chance.randrange(1, 7)):
        at = chance.randrange(len(steps))
        way = chance.randrange(4)
        if way == 0 and places < most_places:
            steps, places = split_in_row(steps, at, places), places + 1
        elif way == 1:
            steps = add_choice(steps, at)
        elif way == 2 and 1 not in steps[at][1]:
            steps = add_circle(steps, at)
        elif way == 3 and places + 4 <= most_places:
            steps, places = split_in_sides(steps, at, places), places + 4
    return places, steps[:most_steps]


def spoiled(chance, places, steps):
    """The steps with an in or an out more or less, at one of them."""
    steps = [(list(ins), list(outs)) for ins, outs in steps]
    side = steps[chance.randrange(len(steps))][chance.randrange(2)]
    place = chance.randrange(places)
    if place not in side:
        side.append(place)
    elif len(side) > 1:
        side.remove(place)
    return steps


def made(chance, most_places=8, most_steps=10):
    """A value that is a net, or nearly one: the caller asks which."""
    places, steps = grown(chance, most_places, most_steps)
    for _ in range(chance.choice([0, 0, 1, 1, 2])):
        steps = spoiled(chance, places, steps)
    names = chance.sample(LETTERS, len(steps))
    kinds = [chance.choice(KINDS) for _ in steps]
    rows = [(name, kind, tuple(sorted(ins)), tuple(sorted(outs)))
            for name, kind, (ins, outs) in zip(names, kinds, steps)]
    return places, tuple(rows)


def nets(number, many, most_places=8, most_steps=10):
    """So many nets made by chance."""
    chance = random.Random(number)
    found = []
    while len(found) < many:
        value = made(chance, most_places, most_steps)
        if is_net(value):
            found.append(value)
    return found
