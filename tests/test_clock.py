"""Points [57] and [62], and promise [14]: waits, lapses, rests, and the clock."""

import random
import unittest

from house_checks import NO_NUMBERS, HouseChecks, choice_of, house_of, later, row_of, sides_of, started, task, view
from samples import CHOICE, LETTER, PLAIN, step

from wholeflow.errors import BadValue, NotNow
from wholeflow.hours import due
from wholeflow.houses import House

LAST = 10 ** 6


def wait(ticks, calendar=None):
    return ("wait", ticks, calendar)


class ClockTest(HouseChecks):

    def test_forward(self):
        house = House()
        self.assertIsNone(self.taken(house, "clock", 1))
        self.assertIsNone(self.taken(house, "clock", 1001))
        self.assertEqual(house.now(), 1001)
        house.clock(tick=1002)
        self.assertEqual(house.log(), ((0, "clock", 1), (1, "clock", 1001), (1001, "clock", 1002)))

    def test_wrong_ticks(self):
        house = House()
        for value in NO_NUMBERS + (0, -1, 1001, 10 ** 30, -10 ** 30, 2.5):
            self.refused(house, BadValue, 0, "clock", value)
        house.clock(700)
        for value in NO_NUMBERS + (0, 1, 699, 700, 1701, LAST):
            self.refused(house, BadValue, 0, "clock", value)
        house.clock(1700)

    def test_the_last_tick(self):
        house = started(choice_of(task("pens", 3, 1000), wait(1000), wait(1000, (28, (27,)))))
        later(house, LAST - 10)
        self.assertEqual(house.instance(1)[4], "ended")
        house.start("root", "letter", 0)
        house.claim("root", "pens")
        self.refused(house, BadValue, 0, "clock", LAST + 1)
        self.assertEqual(house.tasks()[0][9], LAST - 10 + 1000)
        self.assertEqual(house.waits(), ((2, "b", LAST - 10 + 1000), (2, "c", due((28, (27,)), LAST - 10, 1000))))
        house.clock(LAST)
        self.assertEqual(house.now(), LAST)
        self.assertEqual(house.tasks()[0][6], "held")
        for value in (LAST, LAST + 1, LAST - 1):
            self.refused(house, BadValue, 0, "clock", value)
        house.start("root", "letter", 0)
        self.assertEqual(house.waits()[2:], ((3, "b", LAST + 1000), (3, "c", due((28, (27,)), LAST, 1000))))


class WaitTest(HouseChecks):

    def test_due(self):
        for ticks, calendar in ((1, None), (5, None), (1000, None), (3, (7, (0, 1))), (1000, (2, (1,))), (2, (28, (27,)))):
            for first in (0, 1, 6, 40):
                house = house_of(row_of(wait(ticks, calendar)))
                later(house, first)
                house.start("root", "letter", 0)
                at = due(calendar, first, ticks)
                self.assertEqual(house.waits(), ((1, "a", at),))
                later(house, at - first - 1)
                self.status(house, 1, "running")
                self.assertEqual(house.waits(), ((1, "a", at),))
                later(house, 1)
                self.assertEqual(house.instance(1), ("letter", 1, "root", 0, "ended", (1,), ("a",), ()))
                self.assertEqual(house.waits(), ())

    def test_each_begins_at_the_due_tick_of_the_one_before(self):
        house = started(row_of(wait(2), wait(3, (5, (0,))), PLAIN, wait(1000)))
        house.clock(30)
        # The second one begins at 2, and 5, 10, 15 are the open ones that it waits for.
        self.steps_taken(house, 1, "a", "b", "c")
        self.assertEqual(house.waits(), ((1, "d", 1016),))

    def test_the_first_of_two_waits_that_share_an_in(self):
        net = choice_of(wait(3), wait(2), wait(3))
        house = started(net)
        self.assertEqual(house.waits(), ((1, "a", 3), (1, "b", 2), (1, "c", 3)))
        later(house, 3)
        self.steps_taken(house, 1, "b")
        house = started(choice_of(wait(2), wait(2)))
        later(house, 2)
        self.steps_taken(house, 1, "a")

    def test_ascending_by_instance_and_step_number(self):
        # Step numbers tell, not names.
        net = (6, (step("split", PLAIN, [0], [2, 3]), step("z", wait(2), [2], [4]), step("a", wait(2), [3], [5]),
                   step("join", CHOICE, [4, 5], [1])))
        house = started(net)
        house.start("root", "letter", 0)
        later(house, 2)
        self.steps_taken(house, 1, "split", "z", "a")
        self.steps_taken(house, 2, "split", "z", "a")

    def test_a_lesser_step_number_that_began_later(self):
        net = (7, (step("split", PLAIN, [0], [2, 3]), step("late", wait(1), [4], [5]), step("early", wait(2), [3], [6]),
                   step("first", wait(1), [2], [4]), step("join", CHOICE, [5, 6], [1])))
        house = started(net)
        later(house, 1)
        self.assertEqual(house.waits(), ((1, "early", 2), (1, "late", 2)))
        later(house, 1)
        self.steps_taken(house, 1, "split", "first", "late", "early")

    def test_each_instance_is_settled_behind_each_wait(self):
        net = (8, (step("split", PLAIN, [0], [2, 3]), step("y", wait(2), [2], [4]), step("x", wait(2), [3], [5]),
                   step("next", PLAIN, [4], [6]), step("other", task("ink"), [5], [7]), step("join", CHOICE, [6, 7], [1])))
        house = started(net)
        house.start("root", "letter", 0)
        later(house, 2)
        self.steps_taken(house, 1, "split", "y", "next", "x")
        self.assertEqual([row[:3] for row in house.tasks()], [(1, 1, "other"), (2, 2, "other")])

    def test_tasks_come_to_be_by_instance(self):
        house = house_of(row_of(wait(2), task("ink")), row_of(wait(1), wait(1), task("ink")))
        for _ in range(3):
            house.start("root", "letter", 0)
        house.move("root", 2, 1)
        later(house, 2)
        self.assertEqual([row[:3] for row in house.tasks()], [(1, 1, "c"), (2, 2, "b"), (3, 3, "c")])


class OneTickTest(HouseChecks):

    def test_lapses_by_number_ahead_of_rests_and_waits(self):
        # The lapse of the last try begins the undoing, so the wait of the same tick is gone.
        house = started(sides_of(task("pens", 1, 5), wait(5)))
        house.claim("root", "pens")
        later(house, 5)
        self.status(house, 1, "undone")
        self.steps_taken(house, 1, "split")
        house = started(sides_of(task("pens", 2, 5), wait(5)))
        house.claim("root", "pens")
        later(house, 5)
        self.status(house, 1, "running")
        self.steps_taken(house, 1, "split", "b")

    def test_a_wait_takes_the_task_that_becomes_ready_at_its_tick(self):
        house = started(choice_of(task("pens", 3, 4), wait(5)))
        house.claim("root", "pens")
        house.clock(4)
        self.assertEqual(house.tasks()[0][6:], ("resting", None, 0, 5))
        house.clock(5)
        self.tasks(house)
        self.steps_taken(house, 1, "b")

    def test_a_wait_takes_the_task_that_lapses_at_its_tick(self):
        house = started(choice_of(task("pens", 1, 5), wait(5)))
        house.claim("root", "pens")
        later(house, 5)
        # The lapse is first: its last try is gone, and the instance is no longer running.
        self.steps_taken(house, 1)
        self.status(house, 1, "undone")

    def test_a_lapse_of_another_task_of_the_instance(self):
        house = started(sides_of(task("pens", 1, 5), task("ink", 1, 5)))
        house.claim("root", "ink")
        house.claim("root", "pens")
        later(house, 5)
        self.status(house, 1, "undone")
        self.tasks(house)
        self.refused(house, NotNow, "undone", "cancel", "root", 1)

    def test_an_undoing_task_is_offered_at_the_lapse(self):
        house = started(row_of(task("pens"), task("ink", 1, 3)))
        self.work(house, "pens")
        house.claim("root", "ink")
        house.clock(10)
        self.tasks(house, (3, 1, "a", "bin", 3, 0, "ready", None, 0, 0))

    def test_lapses_ascend_by_number(self):
        house = house_of(row_of(task("pens"), task("ink", 1, 5)))
        for _ in range(3):
            house.start("root", "letter", 0)
        for _ in range(3):
            self.work(house, "pens")
        fences = [house.claim("root", "ink") for _ in range(3)]
        self.assertEqual([number for number, _ in fences], [4, 5, 6])
        house.fail("root", 4, fences[0][1])
        self.assertEqual([row[:2] for row in house.tasks()], [(5, 2), (6, 3), (7, 1)])
        later(house, 5)
        self.assertEqual([row[:2] for row in house.tasks()], [(7, 1), (8, 2), (9, 3)])

    def test_a_rest_ends_and_a_lapse_begins_one_at_the_same_tick(self):
        house = started(sides_of(task("pens", 3, 4), task("ink", 3, 3)))
        house.claim("root", "pens")
        house.claim("root", "ink")
        house.clock(3)
        self.assertEqual([row[6:] for row in house.tasks()], [("held", "root", 1, 4), ("resting", None, 0, 4)])
        house.clock(4)
        self.assertEqual([row[6:] for row in house.tasks()], [("resting", None, 0, 5), ("ready", None, 0, 0)])
        house.clock(5)
        self.assertEqual([row[6:] for row in house.tasks()], [("ready", None, 0, 0)] * 2)

    def test_a_lease_of_one(self):
        house = started(choice_of(task("pens", 5, 1)))
        for fence, rest in ((1, 1), (2, 2), (3, 4), (4, 8)):
            house.claim("root", "pens")
            later(house, 1)
            self.assertEqual(house.tasks()[0][5:], (5 - fence, "resting", None, 0, house.now() + rest))
            later(house, rest)
        house.claim("root", "pens")
        later(house, 1)
        self.status(house, 1, "undone")


class PartsTest(HouseChecks):

    def house(self, number):
        """A house in the midst of much."""
        chance = random.Random(number)
        kinds = [wait(chance.randrange(1, 9), chance.choice((None, (3, (1,))))), task("pens", 3, chance.randrange(1, 9)),
                 wait(chance.randrange(1, 9)), task("ink", 2, chance.randrange(1, 9), "pens")]
        nets = [row_of(*chance.sample(kinds, 4)), sides_of(*chance.sample(kinds, 2)), row_of(kinds[1], kinds[0], kinds[3])]
        house = house_of(*nets)
        for _ in range(4):
            house.start("root", "letter", chance.randrange(4))
            house.move("root", len(house.instances()), chance.randrange(1, 4))
            for queue in ("pens", "ink", "bin"):
                told = house.claim("root", queue)
                if told is not None and chance.randrange(2):
                    chance.choice((house.done, house.fail))("root", *told)
            later(house, chance.randrange(3))
        return house

    def test_at_once_or_in_parts(self):
        for number in range(60):
            chance = random.Random(number)
            for ticks in (3, 9, 40, 1000):
                at_once, singly, in_parts = self.house(number), self.house(number), self.house(number)
                last = at_once.now() + ticks
                at_once.clock(last)
                while singly.now() < last:
                    singly.clock(singly.now() + 1)
                while in_parts.now() < last:
                    in_parts.clock(chance.randrange(in_parts.now(), last) + 1)
                told = self.without_log(at_once)
                self.assertEqual(self.without_log(singly), told)
                self.assertEqual(self.without_log(in_parts), told)

    def without_log(self, house):
        told = view(house)
        return told[:1] + told[2:]


class LetterTest(HouseChecks):

    def test_a_clock_without_events(self):
        house = started(LETTER)
        before = house.tasks()
        house.clock(1000)
        self.assertEqual(house.tasks(), before)


if __name__ == "__main__":
    unittest.main()
