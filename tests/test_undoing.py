"""Points [63] and [64], and promise [11]: how instances are undone."""

import unittest

from house_checks import HouseChecks, house_of, later, row_of, started, task
from samples import CHOICE, LETTER, step

from wholeflow.errors import Late, NotNow

# Task steps with an undoing queue and without one, between steps of other kinds.
MIXED = row_of(task("pens", 1, 10, "bin"), CHOICE, task("pens", 2, 20, None), task("pens", 3, 30, "box"),
               ("wait", 2, None), task("pens", 4, 40, "bin"), CHOICE)


class UndoingTest(HouseChecks):

    def test_in_reverse_order(self):
        house = started(MIXED)
        self.work(house, "pens")
        house.choose("root", 1, "b")
        self.work(house, "pens")
        self.work(house, "pens")
        later(house, 2)
        self.work(house, "pens")
        house.signal("root", 1, "go")
        before = house.instance(1)
        self.assertEqual(before[6:], (("a", "b", "c", "d", "e", "f"), ("go",)))
        self.taken(house, "cancel", "root", 1)
        self.assertEqual(house.instance(1), before[:4] + ("undoing",) + before[5:7] + ((),))
        self.tasks(house, (5, 1, "f", "bin", 2, 0, "ready", None, 0, 0))
        later(house, 3)
        self.assertEqual(house.claim("root", "bin"), (5, 5))
        self.tasks(house, (5, 1, "f", "bin", 2, 0, "held", "root", 5, 45))
        self.assertIsNone(self.taken(house, "done", "root", 5, 5))
        self.tasks(house, (6, 1, "d", "box", 5, 0, "ready", None, 0, 0))
        later(house, 1)
        self.work(house, "box")
        self.tasks(house, (7, 1, "a", "bin", 6, 0, "ready", None, 0, 0))
        self.status(house, 1, "undoing")
        house.claim("root", "bin")
        self.assertEqual(house.tasks()[0][9], 16)
        house.done("root", 7, 7)
        self.tasks(house)
        self.assertEqual(house.instance(1), before[:4] + ("undone",) + before[5:7] + ((),))

    def test_nothing_to_undo(self):
        for net in (row_of(task()), row_of(CHOICE, task()), row_of(task("pens", 2, 10, None), task())):
            house = started(net)
            if net[1][0][1] == CHOICE:
                house.choose("root", 1, "a")
            elif len(net[1]) == 2:
                self.work(house, "pens")
            marking, taken = house.instance(1)[5:7]
            house.signal("root", 1, "go")
            house.cancel("root", 1)
            self.assertEqual(house.instance(1), ("letter", 1, "root", 0, "undone", marking, taken, ()))
            self.tasks(house)

    def test_each_as_often_as_it_was_taken(self):
        house = started(LETTER)
        for _ in range(3):
            self.work(house, "pens")
            house.choose("root", 1, "again")
        house.cancel("root", 1)
        for _ in range(3):
            self.assertEqual([row[2:4] for row in house.tasks()], [("write", "bin")])
            self.status(house, 1, "undoing")
            self.work(house, "bin")
        self.status(house, 1, "undone")
        self.steps_taken(house, 1, *["write", "again"] * 3)

    def test_all_its_tasks_waits_and_signals_are_gone(self):
        net = (8, (step("first", task("box"), [0], [2, 3, 4]), step("a", task("ink"), [2], [5]),
                   step("b", ("wait", 5, None), [3], [6]), step("c", task("ink"), [4], [7]),
                   step("join", CHOICE, [5, 6, 7], [1])))
        house = started(net)
        house.start("root", "letter", 0)
        for _ in range(2):
            self.work(house, "box")
        house.claim("root", "ink")
        house.signal("root", 1, "go")
        house.signal("root", 2, "on")
        house.cancel("root", 1)
        self.assertEqual([row[:4] for row in house.tasks()], [
            (5, 2, "a", "ink"), (6, 2, "c", "ink"), (7, 1, "first", "bin")])
        self.assertEqual(house.waits(), ((2, "b", 5),))
        self.assertEqual([house.instance(number)[7] for number in (1, 2)], [(), ("on",)])
        self.refused(house, Late, None, "done", "root", 3, 3)

    def test_by_the_last_try(self):
        house = started(row_of(task("pens"), task("ink", 1)))
        self.work(house, "pens")
        later(house, 4)
        number, fence = house.claim("root", "ink")
        house.fail("root", number, fence)
        self.tasks(house, (3, 1, "a", "bin", 4, 0, "ready", None, 0, 0))
        self.status(house, 1, "undoing")
        # What failed was not taken, so it is not undone.
        self.work(house, "bin")
        self.status(house, 1, "undone")
        self.steps_taken(house, 1, "a")

    def test_no_command_but_work_once_it_is_being_undone(self):
        house = started(LETTER)
        self.work(house, "pens")
        house.cancel("root", 1)
        for status in ("undoing", "undone"):
            for name, *arguments in (("cancel", 1), ("choose", 1, "check"), ("signal", 1, "go"), ("move", 1, 1)):
                self.refused(house, NotNow, status, name, "root", *arguments)
            later(house, 100)
            if status == "undoing":
                self.work(house, "bin")
        self.tasks(house)

    def test_a_right_to_work_on_the_flow(self):
        house = started(LETTER)
        self.work(house, "pens")
        house.cancel("root", 1)
        self.assertIsNone(house.claim("ann", "bin"))
        house.grant("root", "ann", "work", "letter")
        self.assertEqual(house.claim("ann", "bin"), (2, 2))

    def test_by_the_nets_by_which_they_were_taken(self):
        one = row_of(task("pens", 2, 10, "bin"), task("pens", 2, 11, None), task("pens", 2, 12, "bin"), CHOICE)
        other = row_of(task("pens", 2, 50, "ink"), task("pens", 2, 51, "ink"), CHOICE, task("pens", 2, 53, "ink"))
        house = started(one, other)
        house.move("root", 1, 1)
        for _ in range(3):
            self.work(house, "pens")
        house.move("root", 1, 2)
        house.publish("root", "letter", row_of(CHOICE, CHOICE, CHOICE, CHOICE))
        house.move("root", 1, 3)
        house.cancel("root", 1)
        for name, lease in (("c", 12), ("a", 10)):
            self.assertEqual([row[2:4] for row in house.tasks()], [(name, "bin")])
            self.tasks(house, house.tasks()[0])
            number, fence = house.claim("root", "bin")
            self.assertEqual(house.tasks()[0][9], lease)
            house.done("root", number, fence)
        self.status(house, 1, "undone")

    def test_a_step_that_was_none_of_a_task_as_it_was_taken(self):
        house = started(row_of(task("pens"), CHOICE, CHOICE), row_of(CHOICE, CHOICE, task("pens", 2, 9, "box"), CHOICE))
        house.choose("root", 1, "a")
        house.choose("root", 1, "b")
        house.move("root", 1, 1)
        self.steps_taken(house, 1, "a", "b")
        house.cancel("root", 1)
        self.status(house, 1, "undone")

    def test_several_instances(self):
        house = house_of(LETTER)
        for _ in range(3):
            house.start("root", "letter", 0)
        for _ in range(3):
            self.work(house, "pens")
        house.cancel("root", 2)
        house.cancel("root", 1)
        self.assertEqual([row[:2] for row in house.tasks()], [(4, 2), (5, 1)])
        self.work(house, "bin")
        self.assertEqual([house.instance(number)[4] for number in (1, 2, 3)], ["undoing", "undone", "running"])


class FailingTest(HouseChecks):

    def house(self):
        house = started(row_of(task("pens", 1, 3, "bin"), CHOICE))
        self.work(house, "pens")
        house.cancel("root", 1)
        return house

    def test_without_end(self):
        house = self.house()
        for rest in (1, 2, 4, 8, 16, 32, 32, 32, 32, 32):
            number, fence = house.claim("root", "bin")
            self.assertEqual(number, 2)
            house.fail("root", number, fence)
            self.tasks(house, (2, 1, "a", "bin", 0, 0, "resting", None, 0, house.now() + rest))
            later(house, rest - 1)
            self.assertIsNone(house.claim("root", "bin"))
            later(house, 1)
            self.tasks(house, (2, 1, "a", "bin", 0, 0, "ready", None, 0, 0))
        self.status(house, 1, "undoing")
        self.work(house, "bin")
        self.status(house, 1, "undone")

    def test_lapses_without_end(self):
        house = self.house()
        for rest in (1, 2, 4, 8, 16, 32, 32, 32):
            house.claim("root", "bin")
            later(house, 3)
            self.tasks(house, (2, 1, "a", "bin", 0, 0, "resting", None, 0, house.now() + rest))
            later(house, rest)
        self.status(house, 1, "undoing")

    def test_beats(self):
        house = self.house()
        house.claim("root", "bin")
        later(house, 2)
        house.beat("root", 2, 2)
        self.tasks(house, (2, 1, "a", "bin", 0, 0, "held", "root", 2, 5))

    def test_the_next_one_fails_anew(self):
        house = started(LETTER)
        for _ in range(2):
            self.work(house, "pens")
            house.choose("root", 1, "again")
        house.cancel("root", 1)
        for _ in range(3):
            number, fence = house.claim("root", "bin")
            house.fail("root", number, fence)
            later(house, 10)
        self.work(house, "bin")
        self.assertEqual(house.tasks()[0][:5], (5, 1, "write", "bin", house.now()))
        number, fence = house.claim("root", "bin")
        house.fail("root", number, fence)
        self.assertEqual(house.tasks()[0][9], house.now() + 1)


if __name__ == "__main__":
    unittest.main()
