"""Nets for houses, and calls to these, made by chance; the same ones in each run."""

import random

from makers import LETTERS, grown
from samples import as_lists

from wholeflow.nets import is_net
from wholeflow.sound import unsound

QUEUES = ("pens", "bin", "ink", "box")
SIGNALS = ("go", "on", "off")
PEOPLE = ("root", "ann", "bob", "cy")
FLOWS = ("letter", "parcel", "form")
ACTS = ("start", "steer", "see", "work")
STATUSES = ("running", "ended", "undoing", "undone")
CALENDARS = (None, None, (1, (0,)), (7, (0, 1, 4)), (5, (2,)), (28, (3, 27)))
SMALL = (None, True, False, "", "0", "Ann", "a b", "abcdefghi", (), [], (1,), ["root"], 10 ** 30, -1, 0)


def some_kind(chance):
    way = chance.randrange(8)
    if way == 0:
        return ("plain",)
    if way <= 2:
        return ("choice",)
    if way == 3:
        return ("signal", chance.choice(SIGNALS))
    if way == 4:
        return ("wait", chance.randrange(1, 9), chance.choice(CALENDARS))
    return ("task", chance.choice(QUEUES), chance.randrange(1, 5), chance.randrange(1, 12),
            chance.choice((None, "bin", "bin", "box")))


def with_kinds(chance, net):
    """The net with other kinds: the same runs, unless it is no net."""
    return net[0], tuple((name, some_kind(chance), ins, outs) for name, _, ins, outs in net[1])


def sound_net(chance):
    """A sound net made by chance."""
    while True:
        places, steps = grown(chance, 8, 10)
        names = chance.sample(LETTERS, len(steps))
        rows = [(name, ("choice",), tuple(sorted(ins)), tuple(sorted(outs))) for name, (ins, outs) in zip(names, steps)]
        net = with_kinds(chance, (places, tuple(rows)))
        if is_net(net) and unsound(net) is None:
            return net


def another_version(chance, net):
    """A sound net that has some runs of this one, or all of them."""
    while True:
        places, steps = net
        if chance.randrange(3) == 0 and len(steps) > 1:
            lost = chance.randrange(len(steps))
            steps = steps[:lost] + steps[lost + 1:]
        if chance.randrange(3) == 0:
            steps = steps[::-1]
        other = with_kinds(chance, (places, steps)) if chance.randrange(4) else (places, steps)
        if is_net(other) and unsound(other) is None:
            return other


class Caller:
    """Makes calls for a house by what it is at: most are taken, some refused."""

    def __init__(self, number, wrong=0.08):
        self.chance = random.Random(number)
        self.wrong = wrong
        self.nets = {flow: sound_net(self.chance) for flow in FLOWS}

    def first_calls(self):
        calls = [("publish", ("root", flow, self.nets[flow])) for flow in FLOWS]
        for person in PEOPLE[1:]:
            for flow in FLOWS:
                calls += [("grant", ("root", person, act, flow)) for act in ACTS if self.chance.randrange(3)]
        return calls

    def call(self, house):
        """A pair (name, arguments)."""
        name, arguments = getattr(self, self.way(house))(house)
        if self.chance.random() < self.wrong:
            at = self.chance.randrange(len(arguments))
            arguments = arguments[:at] + (self.chance.choice(SMALL),) + arguments[at + 1:]
        if self.chance.randrange(4) == 0:
            arguments = tuple(as_lists(list(arguments)))
        return name, arguments

    def way(self, house):
        if len(house.listing("root", None, "running")) < 3 and self.chance.randrange(3):
            return "start"
        ways = ["claim"] * 8 + ["finish"] * 8 + ["choose"] * 6 + ["clock"] * 4 + ["signal"] * 3
        ways += ["start", "start", "move", "move", "queue", "rights", "publish", "cancel", "late"]
        return self.chance.choice(ways)

    def person(self):
        return "root" if self.chance.randrange(3) == 0 else self.chance.choice(PEOPLE)

    def some(self, rows):
        return self.chance.choice(rows) if rows else None

    def start(self, house):
        return "start", (self.person(), self.chance.choice(FLOWS), self.chance.randrange(4))

    def claim(self, house):
        task = self.some([row for row in house.tasks() if row[6] == "ready"])
        return "claim", (self.person(), task[3] if task else self.chance.choice(QUEUES))

    def finish(self, house):
        task = self.some([row for row in house.tasks() if row[6] == "held"])
        if task is None:
            return self.choose(house)
        name = self.chance.choice(("done", "done", "done", "done", "fail", "fail", "beat"))
        return name, (task[7], task[0], task[8])

    def late(self, house):
        task = self.some(house.tasks())
        number = task[0] if task else 1
        fence = self.chance.choice([task[8] if task else 1, self.chance.randrange(1, 30), True])
        return self.chance.choice(("done", "fail", "beat")), (self.person(), number, fence)

    def running(self, house):
        return self.some(house.listing("root", None, "running")) or self.chance.randrange(4)

    def choose(self, house):
        number = self.running(house)
        if number not in house.instances():
            return "choose", (self.person(), number, "a")
        flow, version, _, _, _, marking, _, _ = house.instance(number)
        choices = [step[0] for step in house.net(flow, version)[1]
                   if step[1] == ("choice",) and set(step[2]) <= set(marking)]
        if not choices and self.chance.randrange(6):
            return self.clock(house) if self.chance.randrange(2) else self.claim(house)
        return "choose", (self.person(), number, self.some(choices) or self.chance.choice(LETTERS))

    def signal(self, house):
        return "signal", (self.person(), self.running(house), self.chance.choice(SIGNALS))

    def clock(self, house):
        chance = self.chance
        return "clock", (house.now() + chance.choice((1, 1, 1, 2, 3, 5, 9, chance.randrange(40))),)

    def move(self, house):
        number = self.running(house)
        many = len(self.nets) if number not in house.instances() else dict(house.flows())[house.instance(number)[0]]
        return "move", (self.person(), number, self.chance.randrange(1, many + (self.chance.randrange(9) == 0) + 1))

    def cancel(self, house):
        number = self.running(house)
        return "cancel", (self.person(), number)

    def queue(self, house):
        chance = self.chance
        return "queue", ("root", chance.choice(QUEUES), chance.choice((0, 1, 3, 1000)), chance.choice((1, 2, 10)),
                         chance.choice((1, 2, 6)))

    def rights(self, house):
        name = self.chance.choice(("grant", "grant", "revoke"))
        return name, (self.chance.choice(("root", "root", "root", "ann")), self.person(), self.chance.choice(ACTS),
                      self.chance.choice(FLOWS))

    def publish(self, house):
        flow = self.chance.choice(FLOWS)
        net = sound_net(self.chance) if self.chance.randrange(3) == 0 else another_version(self.chance, self.nets[flow])
        return "publish", (self.chance.choice(("root", "root", "bob")), flow, net)
