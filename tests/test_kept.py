"""Point [68], and promises [18], [19]: kept houses, copies, equal houses."""

import ast
import os
import subprocess
import sys
import unittest

from house_checks import HouseChecks, house_of, later, sides_of, started, task, view
from samples import CHOICE, LETTER, ROW, is_plain
from test_rebuild import ROWS

from wholeflow.houses import House, rebuild, revive

ROOT = os.path.dirname(os.path.dirname(os.path.abspath(__file__)))
TOLD = "from wholeflow.houses import revive; house = revive({!r}); print((house.log(), house.tasks(), house.waits()))"


def busy():
    """A house in the midst of much."""
    house = rebuild(ROWS)
    house.publish("root", "sides", sides_of(task("ink", 3, 9, "bin"), ("wait", 30, (7, (1, 2)))))
    house.grant("root", "bob", "see", "letter")
    house.queue("root", "ink", 3, 2, 20)
    for priority in (0, 3):
        house.start("root", "sides", priority)
    house.signal("root", 3, "go")
    house.claim("root", "ink")
    later(house, 2)
    return house


def steps_on(house):
    """Calls that lead a busy house on, with what they return."""
    told = [house.claim("root", "ink"), house.claim("root", "ink"), house.start("root", "letter", 1)]
    later(house, 9)
    told += [house.claim("ann", "pens"), house.grant("root", "cy", "work", "row"), house.claim("root", "ink")]
    later(house, 40)
    told += [house.cancel("root", 3), house.publish("root", "letter", ROW), house.queue("root", "ink", 0, 10, 1)]
    told += [house.move("root", 5, 1), house.claim("root", "pens"), house.claim("root", "ink")]
    return told


class KeptTest(HouseChecks):

    def test_revived(self):
        for house in (House(), house_of(LETTER), rebuild(ROWS), busy()):
            before = view(house)
            value = house.kept()
            again = revive(value)
            self.assertIs(type(again), House)
            self.assertTrue(again == house)
            self.assertEqual(view(again), before)
            self.assertEqual(view(house), before)
            self.assertEqual(view(revive(value=value)), before)

    def test_a_plain_value(self):
        for house in (House(), rebuild(ROWS), busy()):
            self.assertTrue(is_plain(house.kept()))

    def test_in_another_run_of_the_program(self):
        house = busy()
        told = subprocess.run([sys.executable, "-B", "-c", TOLD.format(house.kept())], cwd=ROOT, capture_output=True,
                              text=True, check=True)
        self.assertEqual(ast.literal_eval(told.stdout), (house.log(), house.tasks(), house.waits()))

    def test_as_the_house_was(self):
        house = busy()
        value, before = house.kept(), view(house)
        steps_on(house)
        self.assertEqual(view(revive(value)), before)

    def test_led_on_by_the_same_calls(self):
        house = busy()
        again, other = revive(house.kept()), revive(revive(house.kept()).kept())
        told = steps_on(house)
        self.assertEqual(steps_on(again), told)
        self.assertEqual(steps_on(other), told)
        self.assertTrue(house == again == other)
        self.assertEqual(view(again), view(house))
        self.assertEqual(view(other), view(house))

    def test_revived_ones_are_apart(self):
        value = busy().kept()
        one, other = revive(value), revive(value)
        before = view(other)
        steps_on(one)
        self.assertEqual(view(other), before)
        self.assertEqual(view(revive(value)), before)


class CopyTest(HouseChecks):

    def test_the_same(self):
        for house in (House(), house_of(LETTER), rebuild(ROWS), busy()):
            before = view(house)
            other = house.copy()
            self.assertIs(type(other), House)
            self.assertTrue(other == house)
            self.assertEqual(view(other), before)
            self.assertEqual(view(house), before)

    def test_changes_independently(self):
        for one, other in ((busy(), None), (None, busy())):
            one, other = one or other.copy(), other or one.copy()
            before = view(other)
            steps_on(one)
            self.assertEqual(view(other), before)
            self.assertFalse(one == other)
            steps_on(other)
            self.assertTrue(one == other)
            self.assertEqual(view(one), view(other))

    def test_each_part_is_apart(self):
        calls = (("grant", "root", "ann", "see", "row"), ("revoke", "root", "ann", "work", "letter"),
                 ("publish", "root", "letter", ROW), ("publish", "root", "other", ROW), ("queue", "root", "ink", 1, 1, 1),
                 ("queue", "root", "new", 1, 1, 1), ("start", "root", "letter", 0), ("claim", "root", "ink"),
                 ("done", "root", 7, 4), ("fail", "root", 7, 4), ("beat", "root", 7, 4), ("clock", 8), ("clock", 100),
                 ("cancel", "root", 3), ("signal", "root", 3, "on"), ("move", "root", 3, 1))
        for name, *arguments in calls:
            house = busy()
            before, other = view(house), house.copy()
            getattr(other, name)(*arguments)
            self.assertEqual(view(house), before, name)
            self.assertNotEqual(view(other), before, name)
            again = house.copy()
            getattr(house, name)(*arguments)
            self.assertEqual(view(again), before, name)
            self.assertEqual(view(house), view(other), name)

    def test_copies_of_rates_rests_and_tries(self):
        house = house_of((2, (("a", task("pens", 5, 3), (0,), (1,)), ("b", CHOICE, (0,), (1,)))))
        for _ in range(4):
            house.start("root", "letter", 0)
        house.queue("root", "pens", 0, 2, 4)
        number, fence = house.claim("root", "pens")
        house.fail("root", number, fence)
        for copied in (house.copy(), revive(house.kept()), rebuild(house.log())):
            self.assertEqual(copied.claim("root", "pens"), (2, 2))
            self.assertIsNone(copied.claim("root", "pens"))
            copied.clock(4)
            self.assertEqual(copied.claim("root", "pens"), (1, 3))
            copied.fail("root", 1, 3)
            self.assertEqual(copied.tasks()[0][5:], (3, "resting", None, 0, 6))
        self.assertIsNotNone(house.claim("root", "pens"))


class EqualTest(HouseChecks):

    def test_equal_logs(self):
        self.assertTrue(House() == House())
        self.assertFalse(House() != House())
        self.assertTrue(rebuild(ROWS) == rebuild(list(ROWS)))
        self.assertFalse(rebuild(ROWS) == rebuild(ROWS[:-1]))
        self.assertTrue(rebuild(ROWS) != House())

    def test_the_log_counts_not_what_it_led_to(self):
        one, other = House(), House()
        one.grant("root", "ann", "see", "letter")
        one.revoke("root", "ann", "see", "letter")
        self.assertEqual(view(one)[2:], view(other)[2:])
        self.assertFalse(one == other)
        other.grant("root", "ann", "see", "letter")
        other.revoke("root", "ann", "see", "letter")
        self.assertTrue(one == other)

    def test_refused_calls_and_questions_do_not_count(self):
        one, other = started(LETTER), started(LETTER)
        one.claim("ann", "pens")
        one.claim("root", "none")
        view(one)
        with self.assertRaises(Exception):
            one.cancel("ann", 1)
        self.assertTrue(one == other)

    def test_nothing_else(self):
        house = rebuild(ROWS)
        for value in (house.log(), house.kept(), list(ROWS), None, 0, "house", (), object(), [house], House):
            self.assertFalse(house == value)
            self.assertFalse(value == house)
            self.assertTrue(house != value)
        self.assertFalse(House() == ())
        self.assertFalse(House() == None)  # noqa: E711


if __name__ == "__main__":
    unittest.main()
