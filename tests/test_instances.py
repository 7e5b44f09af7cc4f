"""Points [54] to [58]: how instances start, how they are settled, what is asked of them."""

import unittest

from house_checks import (
    NO_NUMBERS, NO_WORDS, HouseChecks, choice_of, house_of, later, row_of, sides_of, started, task,
)
from samples import CHOICE, LETTER, PLAIN, ROUND, SIDES, is_plain, step

from wholeflow.errors import BadValue, NoFlow, NoInstance, NoRight, TooMany

GO = ("signal", "go")
ON = ("signal", "on")


class StartTest(HouseChecks):

    def test_numbers_owner_and_priority(self):
        house = house_of(LETTER)
        house.grant("root", "ann", "start", "letter")
        for number, (who, priority) in enumerate((("ann", 0), ("root", 1), ("ann", 2), ("ann", 3))):
            self.assertEqual(self.taken(house, "start", who, "letter", priority), number + 1)
            self.assertEqual(house.instance(number + 1),
                             ("letter", 1, who, priority, "running", (0,), (), ()))
        self.assertEqual(house.instances(), (1, 2, 3, 4))

    def test_the_newest_version(self):
        house = started(LETTER, ROUND)
        house.publish("root", "form", SIDES)
        house.start("root", "form", 0)
        house.publish("root", "letter", SIDES)
        house.start("root", "letter", 0)
        self.assertEqual([house.instance(number)[:2] for number in (1, 2, 3)],
                         [("letter", 2), ("form", 1), ("letter", 3)])

    def test_arguments_by_name(self):
        house = house_of(LETTER)
        self.assertEqual(house.start(priority=2, flow="letter", who="root"), 1)
        self.assertEqual(house.instance(number=1)[3], 2)

    def test_wrong_arguments_in_their_order(self):
        house = house_of(LETTER)
        for value in NO_WORDS:
            self.refused(house, BadValue, 0, "start", value, value, None)
        for value in NO_WORDS + ("form", "letters"):
            self.refused(house, NoFlow, value, "start", "ann", value, None)
            with self.assertRaises(NoFlow) as caught:
                house.start("ann", value, 9)
            self.assertIs(caught.exception.flow, value)
        for value in NO_NUMBERS + (-1, 4, 10 ** 30, -10 ** 30):
            self.refused(house, BadValue, 2, "start", "ann", "letter", value)
            self.refused(house, BadValue, 2, "start", "root", "letter", value)
        self.refused(house, NoRight, "start", "start", "ann", "letter", 0)

    def test_eight_and_one_more(self):
        house = house_of(LETTER)
        for number in range(1, 9):
            self.assertEqual(house.start("root", "letter", 0), number)
        self.refused(house, TooMany, None, "start", "root", "letter", 0)
        self.refused(house, NoRight, "start", "start", "ann", "letter", 0)
        self.refused(house, BadValue, 2, "start", "root", "letter", 4)

    def test_what_is_being_undone_counts(self):
        house = house_of(LETTER)
        for _ in range(8):
            house.start("root", "letter", 0)
        self.work(house, "pens")
        house.cancel("root", 1)
        self.status(house, 1, "undoing")
        self.refused(house, TooMany, None, "start", "root", "letter", 0)
        self.work(house, "bin")
        self.status(house, 1, "undone")
        self.assertEqual(house.start("root", "letter", 0), 9)
        self.refused(house, TooMany, None, "start", "root", "letter", 0)
        house.cancel("root", 2)
        self.status(house, 2, "undone")
        self.assertEqual(house.start("root", "letter", 0), 10)

    def test_what_ended_does_not_count(self):
        house = house_of(choice_of(CHOICE))
        for number in range(1, 60):
            self.assertEqual(house.start("root", "letter", 0), number)
            house.choose("root", number, "a")
            self.status(house, number, "ended")
        for _ in range(8):
            house.start("root", "letter", 0)
        self.refused(house, TooMany, None, "start", "root", "letter", 0)
        house.choose("root", 63, "a")
        self.assertEqual(house.start("root", "letter", 0), 68)
        self.assertEqual(house.instances(), tuple(range(1, 69)))

    def test_one_that_ends_at_once(self):
        house = house_of(row_of(PLAIN), LETTER)
        plain = started(row_of(PLAIN))
        self.assertEqual(plain.instance(1), ("letter", 1, "root", 0, "ended", (1,), ("a",), ()))
        house.publish("root", "form", row_of(PLAIN, PLAIN))
        for _ in range(8):
            house.start("root", "letter", 0)
        self.refused(house, TooMany, None, "start", "root", "form", 0)


class SettlingTest(HouseChecks):

    def test_plain_steps_in_their_sequence(self):
        steps = (step("last", PLAIN, [5, 6, 7], [1]), step("z", PLAIN, [2], [5]), step("y", PLAIN, [3], [6]),
                 step("x", PLAIN, [4], [7]), step("split", PLAIN, [0], [2, 3, 4]))
        self.steps_taken(started((8, steps)), 1, "split", "z", "y", "x", "last")
        steps = (steps[4], steps[3], steps[1], steps[0], steps[2])
        self.steps_taken(started((8, steps)), 1, "split", "x", "z", "y", "last")

    def test_plain_steps_ahead_of_signals(self):
        net = (6, (step("split", CHOICE, [0], [2, 3]), step("go", GO, [2], [4]), step("plain", PLAIN, [3], [5]),
                   step("join", CHOICE, [4, 5], [1])))
        house = started(net)
        house.signal("root", 1, "go")
        house.choose("root", 1, "split")
        self.steps_taken(house, 1, "split", "plain", "go")

    def test_a_plain_step_behind_each_signal_step(self):
        net = (7, (step("split", CHOICE, [0], [2, 3]), step("go", GO, [2], [4]), step("on", ON, [3], [5]),
                   step("plain", PLAIN, [4], [6]), step("join", CHOICE, [5, 6], [1])))
        house = started(net)
        house.signal("root", 1, "on")
        house.signal("root", 1, "go")
        house.choose("root", 1, "split")
        self.steps_taken(house, 1, "split", "go", "plain", "on")

    def test_signal_steps_in_the_sequence_of_the_steps(self):
        one, other = step("b", GO, [0], [1]), step("a", GO, [0], [1])
        house = started((2, (one, other)))
        house.signal("root", 1, "go")
        self.steps_taken(house, 1, "b")
        house = started((2, (other, one)))
        house.signal("root", 1, "go")
        self.steps_taken(house, 1, "a")

    def test_a_signal_is_used_up_by_one_step(self):
        house = started(row_of(GO, GO, ON))
        house.signal("root", 1, "go")
        self.steps_taken(house, 1, "a")
        self.assertEqual(house.instance(1)[7], ())
        house.signal("root", 1, "on")
        self.steps_taken(house, 1, "a")
        self.assertEqual(house.instance(1)[7], ("on",))
        house.signal("root", 1, "on")
        house.signal("root", 1, "off")
        self.assertEqual(house.instance(1)[7], ("off", "on", "on"))
        house.signal("root", 1, "go")
        self.steps_taken(house, 1, "a", "b", "c")
        self.assertEqual(house.instance(1), ("letter", 1, "root", 0, "ended", (1,), ("a", "b", "c"), ()))

    def test_a_signal_ahead_of_a_step_that_shares_its_in(self):
        net = (2, (step("a", task(), [0], [1]), step("b", GO, [0], [1]), step("c", ("wait", 3, None), [0], [1])))
        house = started(net)
        self.assertEqual((len(house.tasks()), house.waits()), (1, ((1, "c", 3),)))
        house.signal("root", 1, "go")
        self.assertEqual((house.tasks(), house.waits()), ((), ()))
        self.steps_taken(house, 1, "b")
        self.status(house, 1, "ended")

    def test_tasks_in_the_sequence_of_the_steps(self):
        house = started(choice_of(task("pens"), ("wait", 9, None), task("ink", 3), task("pens")))
        self.assertEqual([row[:6] for row in house.tasks()], [
            (1, 1, "a", "pens", 0, 2), (2, 1, "c", "ink", 0, 3), (3, 1, "d", "pens", 0, 2)])
        self.assertEqual(house.waits(), ((1, "b", 9),))

    def test_what_has_a_task_or_a_wait_keeps_it(self):
        net = (5, (step("split", PLAIN, [0], [2, 3]), step("a", task(), [2], [1]), step("b", CHOICE, [3], [4]),
                   step("c", CHOICE, [4], [3]), step("w", ("wait", 50, None), [2, 3], [1]),
                   step("d", CHOICE, [2, 4], [1])))
        house = started((5, tuple(row for row in net[1] if row[0] != "a")))
        later(house, 4)
        self.assertEqual(house.waits(), ((1, "w", 50),))
        house.choose("root", 1, "b")
        self.assertEqual(house.waits(), ())
        house.choose("root", 1, "c")
        self.assertEqual(house.waits(), ((1, "w", 54),))
        house = started(sides_of(task(), ("wait", 5, None)))
        house.claim("root", "pens")
        later(house, 5)
        self.steps_taken(house, 1, "split", "b")
        self.tasks(house, (1, 1, "a", "pens", 0, 2, "held", "root", 1, 10))
        house.signal("root", 1, "none")
        self.tasks(house, (1, 1, "a", "pens", 0, 2, "held", "root", 1, 10))
        self.assertEqual(house.waits(), ())

    def test_what_shares_one_of_several_ins_is_gone(self):
        net = (6, (step("split", PLAIN, [0], [2, 3]), step("both", task("ink"), [2, 3], [1]),
                   step("one", task(), [2], [4]), step("other", ("wait", 9, None), [3], [5]),
                   step("join", CHOICE, [4, 5], [1])))
        house = started(net)
        self.assertEqual([row[2] for row in house.tasks()], ["both", "one"])
        self.work(house, "pens")
        self.assertEqual([row[2] for row in house.tasks()], [])
        self.assertEqual(house.waits(), ((1, "other", 9),))
        house = started(net)
        self.work(house, "ink")
        self.assertEqual((house.tasks(), house.waits()), ((), ()))
        self.status(house, 1, "ended")

    def test_a_step_that_comes_again_gets_another_task(self):
        house = started(LETTER)
        self.work(house, "pens")
        self.tasks(house)
        later(house, 3)
        house.choose("root", 1, "again")
        self.tasks(house, (2, 1, "write", "pens", 3, 2, "ready", None, 0, 0))

    def test_a_step_back_to_its_own_in(self):
        net = (2, (step("again", CHOICE, [0], [0]), step("a", task(), [0], [1]), step("w", ("wait", 9, None), [0], [1])))
        house = started(net)
        later(house, 2)
        house.claim("root", "pens")
        house.choose("root", 1, "again")
        self.tasks(house, (2, 1, "a", "pens", 2, 2, "ready", None, 0, 0))
        self.assertEqual(house.waits(), ((1, "w", 11),))

    def test_the_end(self):
        house = started(sides_of(task(), ("wait", 2, None)))
        house.signal("root", 1, "go")
        self.work(house, "pens")
        later(house, 2)
        house.choose("root", 1, "join")
        self.assertEqual(house.instance(1), ("letter", 1, "root", 0, "ended", (1,), ("split", "a", "b", "join"), ()))
        self.assertEqual((house.tasks(), house.waits()), ((), ()))

    def test_an_instance_that_ends_while_others_wait(self):
        house = house_of(choice_of(task(), ("wait", 9, None), CHOICE))
        for _ in range(3):
            house.start("root", "letter", 0)
        house.choose("root", 2, "c")
        self.assertEqual([row[:2] for row in house.tasks()], [(1, 1), (3, 3)])
        self.assertEqual(house.waits(), ((1, "b", 9), (3, "b", 9)))
        self.assertEqual([house.instance(number)[4] for number in (1, 2, 3)], ["running", "ended", "running"])

    def test_words_that_are_kinds(self):
        house = started(row_of(("signal", "plain"), task("choice", 1, 5, "plain"), task("plain", 1, 5, "choice"),
                               ("signal", "wait"), task("wait", 1, 5, "signal"), CHOICE))
        self.steps_taken(house, 1)
        self.refused(house, BadValue, 2, "choose", "root", 1, "a")
        house.signal("root", 1, "plain")
        self.steps_taken(house, 1, "a")
        self.refused(house, BadValue, 2, "choose", "root", 1, "b")
        self.work(house, "choice")
        self.refused(house, BadValue, 2, "choose", "root", 1, "c")
        self.work(house, "plain")
        house.signal("root", 1, "signal")
        self.steps_taken(house, 1, "a", "b", "c")
        house.signal("root", 1, "wait")
        self.work(house, "wait")
        house.cancel("root", 1)
        self.assertEqual([self.work(house, queue) for queue in ("signal", "choice", "plain")], [4, 5, 6])
        self.status(house, 1, "undone")

    def test_many_signals_in_one_settling(self):
        loop = (3, (step("go", GO, [0], [2]), step("back", PLAIN, [2], [0]), step("end", ON, [0], [1])))
        house = started((3, (step("go", GO, [0], [2]), step("back", CHOICE, [2], [0]), step("end", ON, [0], [1]))), loop)
        house.move("root", 1, 1)
        for _ in range(20):
            house.signal("root", 1, "go")
        self.assertEqual(house.instance(1)[6:], (("go",), ("go",) * 19))
        house.choose("root", 1, "back")
        self.assertEqual(house.instance(1)[6:], (("go", "back", "go"), ("go",) * 18))


class QuestionsTest(HouseChecks):

    def test_no_number_of_an_instance(self):
        house = started(LETTER)
        for value in NO_NUMBERS + (0, 2, -1, 10 ** 30):
            self.refused(house, NoInstance, value, "instance", value)
            with self.assertRaises(NoInstance) as caught:
                house.instance(value)
            self.assertIs(caught.exception.number, value)

    def test_plain_tuples(self):
        house = started(sides_of(task(), ("wait", 2, None)))
        house.signal("root", 1, "go")
        house.claim("root", "pens")
        for told in (house.instance(1), house.instances(), house.tasks(), house.waits(), house.log(), house.flows()):
            self.assertTrue(is_plain(told), told)

    def test_waits_ascend_by_instance_and_name(self):
        wait = ("wait", 4, None)
        net = (6, (step("split", PLAIN, [0], [2, 3]), step("z", wait, [2], [4]), step("a", ("wait", 9, None), [3], [5]),
                   step("join", CHOICE, [4, 5], [1])))
        house = started(net)
        house.start("root", "letter", 0)
        self.assertEqual(house.waits(), ((1, "a", 9), (1, "z", 4), (2, "a", 9), (2, "z", 4)))


if __name__ == "__main__":
    unittest.main()
