"""Points [44] and [45], and promise [5]: calendars, held against counting tick by tick."""

import random
import unittest

from checks import Checks
from samples import CALENDARS, NO_CALENDARS, NO_INTEGERS, NO_TICKS, as_lists, mixed

from wholeflow.hours import due, is_open, open_ticks

LAST = 10 ** 6
WEEK = (7, (0, 1, 2, 3, 4))


def opens(calendar, tick):
    """Whether a tick is open, by the words of [25]."""
    return calendar is None or tick % calendar[0] in calendar[1]


def counted(calendar, first, last):
    """How many ticks are open, one by one."""
    return sum(1 for tick in range(first, last) if opens(calendar, tick))


def awaited(calendar, first, ticks):
    """When so many open ticks have passed, one by one."""
    tick = first
    while ticks > 0:
        ticks -= opens(calendar, tick)
        tick += 1
    return tick


class IsOpenTest(Checks):

    def test_examples(self):
        for tick, told in ((0, True), (4, True), (5, False), (6, False), (7, True), (699999, False), (700004, True),
                           (700005, False)):
            self.assertIs(is_open(WEEK, tick), told)

    def test_none_is_always_open(self):
        for tick in (0, 1, 6, LAST):
            self.assertIs(is_open(None, tick), True)

    def test_tick_by_tick(self):
        for calendar in CALENDARS:
            for tick in list(range(90)) + list(range(LAST - 60, LAST + 1)):
                self.assertIs(is_open(calendar, tick), opens(calendar, tick))

    def test_lists_and_names(self):
        self.assertIs(is_open(tick=5, calendar=[7, [5]]), True)
        for calendar in CALENDARS:
            for tick in range(30):
                told = self.unchanged(is_open, calendar, tick)
                self.assertIs(is_open(mixed(calendar), tick), told)
                self.assertIs(is_open(calendar and (calendar[0], list(calendar[1])), tick), told)

    def test_wrong_arguments_in_their_order(self):
        for calendar in NO_CALENDARS:
            for tick in (0, None, True, -1, "0"):
                self.refused(0, is_open, calendar, tick)
                self.refused(0, is_open, as_lists(calendar), tick)
        for calendar in CALENDARS:
            for tick in NO_TICKS:
                self.refused(1, is_open, calendar, tick)


class OpenTicksTest(Checks):

    def test_examples(self):
        self.assertEqual(open_ticks(WEEK, 0, 7), 5)
        self.assertEqual(open_ticks(WEEK, 4, 7), 1)
        self.assertEqual(open_ticks(WEEK, 5, 7), 0)
        self.assertEqual(open_ticks(WEEK, 5, 8), 1)
        self.assertEqual(open_ticks(None, 3, 10), 7)

    def test_first_counts_and_last_does_not(self):
        self.assertEqual(open_ticks((3, (1,)), 1, 4), 1)
        self.assertEqual(open_ticks((3, (1,)), 1, 5), 2)
        self.assertEqual(open_ticks((3, (1,)), 2, 4), 0)

    def test_none_from_last_on(self):
        for calendar in CALENDARS:
            for tick in (0, 1, 5, 27, LAST):
                self.assertEqual(open_ticks(calendar, tick, tick), 0)
            self.assertEqual(open_ticks(calendar, 1, 0), 0)
            self.assertEqual(open_ticks(calendar, 40, 3), 0)
            self.assertEqual(open_ticks(calendar, LAST, 0), 0)

    def test_all_ticks(self):
        self.assertEqual(open_ticks(None, 0, LAST), LAST)
        self.assertEqual(open_ticks((1, (0,)), 0, LAST), LAST)
        self.assertEqual(open_ticks((28, tuple(range(28))), 0, LAST), LAST)
        self.assertEqual(open_ticks((2, (0,)), 0, LAST), LAST // 2)
        for calendar in CALENDARS:
            self.assertEqual(open_ticks(calendar, 0, LAST), counted(calendar, 0, LAST))

    def test_tick_by_tick(self):
        for calendar in CALENDARS:
            for first in range(0, 60):
                for last in range(0, 120, 7):
                    self.assertEqual(open_ticks(calendar, first, last), counted(calendar, first, last))
            for last in range(LAST - 60, LAST + 1):
                self.assertEqual(open_ticks(calendar, LAST - 30, last), counted(calendar, LAST - 30, last))

    def test_lists_and_names(self):
        self.assertEqual(open_ticks(last=14, calendar=[7, [5]], first=6), 1)
        for calendar in CALENDARS:
            told = self.unchanged(open_ticks, calendar, 3, 50)
            self.assertIs(type(told), int)
            self.assertEqual(open_ticks(mixed(calendar), 3, 50), told)

    def test_wrong_arguments_in_their_order(self):
        for calendar in NO_CALENDARS:
            for first, last in ((0, 1), (None, 1), (0, None), (True, -1)):
                self.refused(0, open_ticks, calendar, first, last)
        for calendar in CALENDARS:
            for tick in NO_TICKS:
                for other in (0, LAST, None, False):
                    self.refused(1, open_ticks, calendar, tick, other)
                self.refused(2, open_ticks, calendar, 0, tick)
                self.refused(2, open_ticks, calendar, LAST, tick)


class DueTest(Checks):

    def test_examples(self):
        self.assertEqual(due(None, 3, 4), 7)
        self.assertEqual(due(WEEK, 0, 5), 5)
        self.assertEqual(due(WEEK, 0, 6), 8)
        self.assertEqual(due(WEEK, 5, 1), 8)
        self.assertEqual(due(WEEK, 4, 1), 5)

    def test_first_tick_open_or_not(self):
        self.assertEqual(due((28, (5,)), 5, 1), 6)
        self.assertEqual(due((28, (5,)), 6, 1), 34)
        self.assertEqual(due((28, (5,)), 4, 1), 6)
        self.assertEqual(due((28, (5,)), 5, 2), 34)

    def test_always_open(self):
        for calendar in (None, (1, (0,)), (28, tuple(range(28)))):
            for first in (0, 1, 27, 28, LAST):
                for ticks in (1, 2, 28, 1000):
                    self.assertEqual(due(calendar, first, ticks), first + ticks)

    def test_above_the_last_tick(self):
        self.assertEqual(due(None, LAST, 1), LAST + 1)
        self.assertEqual(due(None, LAST, 1000), LAST + 1000)
        self.assertEqual(LAST % 28, 8)
        self.assertEqual(due((28, (7,)), LAST, 1), LAST + 28)
        self.assertEqual(due((28, (7,)), LAST, 1000), LAST + 28000)
        self.assertEqual(due((28, (8,)), LAST, 1000), LAST + 1 + 28 * 999)

    def test_tick_by_tick(self):
        for calendar in CALENDARS:
            for first in list(range(40)) + [LAST - 3, LAST]:
                for ticks in (1, 2, 3, 4, 5, 6, 7, 8, 27, 28, 29, 56, 999, 1000):
                    self.assertEqual(due(calendar, first, ticks), awaited(calendar, first, ticks))

    def test_calendars_by_chance(self):
        chance = random.Random(1)
        for _ in range(300):
            length = chance.randrange(1, 29)
            calendar = (length, tuple(sorted(chance.sample(range(length), chance.randrange(1, length + 1)))))
            first, ticks = chance.randrange(LAST + 1), chance.randrange(1, 1001)
            told = due(calendar, first, ticks)
            self.assertEqual(told, awaited(calendar, first, ticks))
            if told <= LAST:
                self.assertEqual(open_ticks(calendar, first, told), ticks)
                self.assertEqual(open_ticks(calendar, first, told - 1), ticks - 1)

    def test_at_once_or_in_two_parts(self):
        for calendar in CALENDARS:
            for first in list(range(30)) + [LAST - 500]:
                for one in (1, 2, 5, 13):
                    for other in (1, 3, 28, 987):
                        behind = due(calendar, first, one)
                        if behind <= LAST:
                            self.assertEqual(due(calendar, first, one + other), due(calendar, behind, other))

    def test_lists_and_names(self):
        self.assertEqual(due(ticks=2, first=6, calendar=[7, [5]]), 20)
        for calendar in CALENDARS:
            told = self.unchanged(due, calendar, 3, 50)
            self.assertIs(type(told), int)
            self.assertEqual(due(mixed(calendar), 3, 50), told)

    def test_wrong_arguments_in_their_order(self):
        for calendar in NO_CALENDARS:
            for first, ticks in ((0, 1), (None, 1), (0, None), (True, 0)):
                self.refused(0, due, calendar, first, ticks)
        for calendar in CALENDARS:
            for tick in NO_TICKS:
                for ticks in (1, 0, None, True):
                    self.refused(1, due, calendar, tick, ticks)
            for ticks in NO_INTEGERS + (0, -1, 1001, 10 ** 30, -10 ** 30):
                for first in (0, LAST):
                    self.refused(2, due, calendar, first, ticks)


if __name__ == "__main__":
    unittest.main()
