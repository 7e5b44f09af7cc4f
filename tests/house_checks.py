"""What the tests of houses check in the same way, and houses that several of them use."""

import copy
import unittest

from samples import CHOICE, step

from wholeflow.errors import FlowError, Late, TooMany
from wholeflow.houses import House

STATUSES = (None, "running", "ended", "undoing", "undone")
# Values that are no words, whatever is asked.
NO_WORDS = (None, True, False, 0, 1, 10 ** 30, "", "abcdefghi", "Ann", "a b", "a1", (), [], ("ann",), ["ann"],
            ((), [None]))
# Values that are no integers, whatever the bounds.
NO_NUMBERS = (None, True, False, "", "1", "a", (), [], (1,), [1], ((1, [2]),))


def view(house, people=("root", "ann", "bob")):
    """What a house answers to all questions."""
    flows = house.flows()
    listings = [house.listing(who, flow, status) for who in people
                for flow in (None, "letter", "other") for status in STATUSES]
    return (house.now(), house.log(), house.rights(), flows, house.queues(), house.instances(),
            [house.net(flow, version + 1) for flow, many in flows for version in range(many)],
            [house.instance(number) for number in house.instances()], house.waits(), house.tasks(), listings)


def outcome(house, name, arguments):
    """What a call returns, or the error that it raises with what this tells."""
    try:
        return "returned", getattr(house, name)(*arguments)
    except FlowError as error:
        return "raised", type(error), vars(error)


class HouseChecks(unittest.TestCase):

    def refused(self, house, error, told, name, *arguments):
        """The call raises this error, with what it tells, and changes neither the house nor the arguments."""
        before, log = view(house), house.log()
        passed = copy.deepcopy(arguments)
        with self.assertRaises(error) as caught:
            getattr(house, name)(*arguments)
        self.assertIs(type(caught.exception), error)
        values = list(vars(caught.exception).values())
        right = [] if error in (Late, TooMany) else [told]
        self.assertEqual(values, right, (name, arguments))
        self.assertEqual([type(value) for value in values], [type(value) for value in right])
        self.assertEqual(arguments, passed)
        self.assertEqual(view(house), before)
        self.assertEqual(house.log(), log)

    def taken(self, house, name, *arguments):
        """The command is not refused, and adds just its row; returns what it returned."""
        tick, log = house.now(), house.log()
        passed = copy.deepcopy(arguments)
        told = getattr(house, name)(*arguments)
        self.assertEqual(arguments, passed)
        self.assertEqual(house.log(), log + ((tick, name) + arguments,))
        return told

    def status(self, house, number, told):
        self.assertEqual(house.instance(number)[4], told)

    def marking(self, house, number, told):
        self.assertEqual(house.instance(number)[5], told)

    def steps_taken(self, house, number, *told):
        self.assertEqual(house.instance(number)[6], told)

    def tasks(self, house, *told):
        self.assertEqual(house.tasks(), told)

    def work(self, house, queue, worker="root"):
        """Claims a task of the queue and does it; returns its number."""
        number, fence = house.claim(worker, queue)
        self.assertIsNone(house.done(worker, number, fence))
        return number


def house_of(*nets):
    """A house in which these are the versions of the flow `letter`."""
    house = House()
    for net in nets:
        house.publish("root", "letter", net)
    return house


def started(*nets, priority=0):
    """Likewise, with an instance of the newest one."""
    house = house_of(*nets)
    house.start("root", "letter", priority)
    return house


def later(house, ticks):
    """So many ticks pass."""
    while ticks > 0:
        house.clock(house.now() + min(ticks, 1000))
        ticks -= min(ticks, 1000)


def task(queue="pens", tries=2, lease=10, undo="bin"):
    return ("task", queue, tries, lease, undo)


def row_of(*kinds):
    """A net of steps a, b, c .. of these kinds, one behind the other."""
    places = [0] + list(range(2, len(kinds) + 1)) + [1]
    steps = [step("abcdefghij"[at], kind, [places[at]], [places[at + 1]]) for at, kind in enumerate(kinds)]
    return max(2, len(kinds) + 1), tuple(steps)


def choice_of(*kinds):
    """A net of steps a, b, c .. of these kinds, of which one is taken."""
    return 2, tuple(step("abcdefghij"[at], kind, [0], [1]) for at, kind in enumerate(kinds))


def sides_of(one, other):
    """A net with a plain step, then steps a and b side by side, then a choice."""
    return (6, (step("split", ("plain",), [0], [2, 3]), step("a", one, [2], [4]), step("b", other, [3], [5]),
                step("join", CHOICE, [4, 5], [1])))


