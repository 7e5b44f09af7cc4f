"""Points [55], [63] and [65], and promises [8], [15]: cancel, choose, signal and move."""

import unittest

from house_checks import NO_NUMBERS, NO_WORDS, HouseChecks, choice_of, house_of, later, row_of, sides_of, started, task
from samples import CHOICE, LETTER, PLAIN, ROUND, SIDES, step

from wholeflow.errors import BadValue, NoInstance, NoMove, NoRight, NotNow, TooMany
from wholeflow.versions import fits, marking_after

# The commands, each with right arguments behind the instance, and with such of a wrong form.
COMMANDS = (("cancel", (), ()), ("choose", ("check",), NO_WORDS), ("signal", ("go",), NO_WORDS),
            ("move", (1,), NO_NUMBERS))


class SequenceOfErrorsTest(HouseChecks):

    def house(self):
        """Instance 1 is running, 2 ended, 3 being undone, 4 undone."""
        house = house_of(LETTER)
        for _ in range(4):
            house.start("root", "letter", 0)
        for _ in range(3):
            self.work(house, "pens")
        house.choose("root", 2, "check")
        house.cancel("root", 3)
        house.cancel("root", 4)
        house.grant("root", "ann", "steer", "letter")
        house.grant("root", "bob", "steer", "form")
        return house

    def test_who_and_the_forms_first(self):
        house = self.house()
        for name, right, wrong in COMMANDS:
            for value in NO_WORDS:
                for number in (1, 2, 9, None):
                    self.refused(house, BadValue, 0, name, value, number, *right)
                    self.refused(house, BadValue, 0, name, value, number, *wrong[:len(right)])
            for value in wrong:
                for who in ("root", "bob"):
                    for number in (1, 2, 9, value):
                        self.refused(house, BadValue, 2, name, who, number, value)

    def test_no_instance(self):
        house = self.house()
        for name, right, _ in COMMANDS:
            for value in NO_NUMBERS + (0, 5, -1, 10 ** 30, "root"):
                self.refused(house, NoInstance, value, name, "bob", value, *right)
                self.refused(house, NoInstance, value, name, "root", value, *right)
                with self.assertRaises(NoInstance) as caught:
                    getattr(house, name)("root", value, *right)
                self.assertIs(caught.exception.number, value)

    def test_no_right_ahead_of_the_status(self):
        house = self.house()
        for name, right, _ in COMMANDS:
            for number in (1, 2, 3, 4):
                self.refused(house, NoRight, "steer", name, "bob", number, *right)

    def test_not_now(self):
        house = self.house()
        for name, right, _ in COMMANDS:
            for number, status in ((2, "ended"), (3, "undoing"), (4, "undone")):
                for who in ("root", "ann"):
                    self.refused(house, NotNow, status, name, who, number, *right)
        self.refused(house, NotNow, "ended", "choose", "root", 2, "none")
        self.refused(house, NotNow, "ended", "move", "root", 2, 10 ** 30)


class CancelTest(HouseChecks):

    def test_cancel(self):
        house = started(LETTER)
        self.assertIsNone(self.taken(house, "cancel", "root", 1))
        self.status(house, 1, "undone")
        house.start("root", "letter", 0)
        house.cancel(instance=2, who="root")
        self.status(house, 2, "undone")


class ChooseTest(HouseChecks):

    def test_chosen(self):
        house = started(LETTER)
        house.grant("root", "ann", "steer", "letter")
        self.work(house, "pens")
        self.assertIsNone(self.taken(house, "choose", "ann", 1, "again"))
        self.marking(house, 1, (0,))
        self.work(house, "pens")
        house.choose(step="check", instance=1, who="ann")
        self.assertEqual(house.instance(1), ("letter", 1, "root", 0, "ended", (1,), ("write", "again", "write", "check"), ()))

    def test_no_enabled_choice_step(self):
        house = started(LETTER)
        for name in ("check", "again", "write", "none"):
            self.refused(house, BadValue, 2, "choose", "root", 1, name)
        kinds = (task(), ("signal", "go"), ("wait", 5, None), CHOICE)
        house = started(choice_of(*kinds))
        for name in ("a", "b", "c"):
            self.refused(house, BadValue, 2, "choose", "root", 1, name)
        house.choose("root", 1, "d")
        self.status(house, 1, "ended")

    def test_steps_side_by_side(self):
        house = started(sides_of(CHOICE, CHOICE))
        house.choose("root", 1, "b")
        self.refused(house, BadValue, 2, "choose", "root", 1, "b")
        self.refused(house, BadValue, 2, "choose", "root", 1, "join")
        house.choose("root", 1, "a")
        house.choose("root", 1, "join")
        self.steps_taken(house, 1, "split", "b", "a", "join")

    def test_settled_behind_it(self):
        house = started(row_of(CHOICE, PLAIN, PLAIN, task("ink")))
        house.choose("root", 1, "a")
        self.steps_taken(house, 1, "a", "b", "c")
        self.assertEqual([row[2] for row in house.tasks()], ["d"])


class SignalTest(HouseChecks):

    def test_signals(self):
        house = started(row_of(CHOICE, ("signal", "go"), CHOICE))
        house.grant("root", "ann", "steer", "letter")
        self.assertIsNone(self.taken(house, "signal", "ann", 1, "on"))
        house.signal(word="go", instance=1, who="ann")
        house.signal("ann", 1, "abcdefgh")
        house.signal("ann", 1, "go")
        self.assertEqual(house.instance(1)[7], ("abcdefgh", "go", "go", "on"))
        house.choose("root", 1, "a")
        self.assertEqual(house.instance(1)[6:], (("a", "b"), ("abcdefgh", "go", "on")))
        house.choose("root", 1, "c")
        self.assertEqual(house.instance(1)[7], ())

    def test_of_one_instance_alone(self):
        house = started(row_of(("signal", "go"), CHOICE))
        house.start("root", "letter", 0)
        house.signal("root", 2, "go")
        self.steps_taken(house, 1)
        self.steps_taken(house, 2, "a")

    def test_twenty_and_one_more(self):
        house = started(row_of(("signal", "go"), CHOICE))
        house.start("root", "letter", 0)
        for at in range(20):
            house.signal("root", 1, "onoff"[at % 3:])
        self.assertEqual(len(house.instance(1)[7]), 20)
        self.refused(house, TooMany, None, "signal", "root", 1, "on")
        # This one would be used up at once.
        self.refused(house, TooMany, None, "signal", "root", 1, "go")
        self.refused(house, NoRight, "steer", "signal", "ann", 1, "go")
        house.signal("root", 2, "go")
        self.steps_taken(house, 2, "a")
        house = started(row_of(("signal", "go"), CHOICE))
        for _ in range(19):
            house.signal("root", 1, "on")
        house.signal("root", 1, "go")
        self.assertEqual(house.instance(1)[6:], (("a",), ("on",) * 19))
        house.signal("root", 1, "go")
        self.refused(house, TooMany, None, "signal", "root", 1, "go")


class MoveTest(HouseChecks):

    def test_to_another_version(self):
        house = started(LETTER, (3, (LETTER[1][0], LETTER[1][1])))
        house.grant("root", "ann", "steer", "letter")
        self.work(house, "pens")
        self.assertIsNone(self.taken(house, "move", "ann", 1, 1))
        self.assertEqual(house.instance(1), ("letter", 1, "root", 0, "running", (2,), ("write",), ()))
        house.move(version=2, instance=1, who="root")
        self.refused(house, BadValue, 2, "choose", "root", 1, "again")
        self.assertEqual(house.instance(1)[1], 2)

    def test_what_is_no_version_of_its_flow(self):
        house = started(LETTER, LETTER)
        for _ in range(3):
            house.publish("root", "form", LETTER)
        for value in (0, -1, 3, 10 ** 30, -10 ** 30):
            self.refused(house, BadValue, 2, "move", "root", 1, value)

    def test_steps_that_are_no_run(self):
        house = started(LETTER, (3, LETTER[1][:2]))
        house.move("root", 1, 1)
        house.publish("root", "letter", (2, (("b", CHOICE, (0,), (1,)),)))
        for _ in range(2):
            self.work(house, "pens")
            house.choose("root", 1, "again")
        self.refused(house, NoMove, 1, "move", "root", 1, 2)
        self.refused(house, NoMove, 0, "move", "root", 1, 3)
        self.refused(house, BadValue, 2, "move", "root", 1, 4)
        house.move("root", 1, 1)

    def test_no_steps_taken_fit_all_versions(self):
        house = started(ROUND, SIDES, LETTER)
        for version in (1, 3, 3, 1, 2):
            house.move("root", 1, version)
            self.assertEqual(house.instance(1)[1], version)
        self.steps_taken(house, 1, "split")
        self.refused(house, NoMove, 0, "move", "root", 1, 3)

    def test_tasks_and_waits_are_gone_and_signals_stay(self):
        net = sides_of(task("pens", 3, 50), ("wait", 9, None))
        house = started(net)
        later(house, 2)
        house.claim("root", "pens")
        house.fail("root", 1, 1)
        house.signal("root", 1, "go")
        later(house, 3)
        house.claim("root", "pens")
        self.tasks(house, (1, 1, "a", "pens", 0, 2, "held", "root", 2, 55))
        house.move("root", 1, 1)
        self.tasks(house, (2, 1, "a", "pens", 5, 3, "ready", None, 0, 0))
        self.assertEqual(house.waits(), ((1, "b", 14),))
        self.assertEqual(house.instance(1)[6:], (("split",), ("go",)))

    def test_only_its_own_tasks_and_waits(self):
        house = started(sides_of(task("pens"), ("wait", 9, None)))
        house.start("root", "letter", 0)
        later(house, 1)
        house.move("root", 1, 1)
        self.assertEqual([row[:2] for row in house.tasks()], [(2, 2), (3, 1)])
        self.assertEqual(house.waits(), ((1, "b", 10), (2, "b", 9)))

    def test_the_marking_to_which_its_steps_lead_there(self):
        one = row_of(CHOICE, CHOICE, CHOICE)
        other = (8, (step("a", CHOICE, [0], [5, 6]), step("b", CHOICE, [5], [7]), step("c", CHOICE, [6, 7], [1])))
        house = started(other, one)
        house.choose("root", 1, "a")
        house.choose("root", 1, "b")
        self.marking(house, 1, (3,))
        house.move("root", 1, 1)
        self.marking(house, 1, (6, 7))
        house.choose("root", 1, "c")
        self.status(house, 1, "ended")

    def test_settled_there(self):
        plain = (4, (step("a", CHOICE, [0], [2]), step("b", PLAIN, [2], [3]), step("c", ("signal", "go"), [3], [1])))
        house = started(plain, row_of(CHOICE, CHOICE, CHOICE))
        house.choose("root", 1, "a")
        house.signal("root", 1, "go")
        house.move("root", 1, 1)
        self.assertEqual(house.instance(1), ("letter", 1, "root", 0, "ended", (1,), ("a", "b", "c"), ()))

    def test_to_a_version_in_which_it_has_ended(self):
        house = started(row_of(CHOICE), row_of(CHOICE, CHOICE))
        house.signal("root", 1, "go")
        house.choose("root", 1, "a")
        self.status(house, 1, "running")
        house.move("root", 1, 1)
        self.assertEqual(house.instance(1), ("letter", 1, "root", 0, "ended", (1,), ("a",), ()))
        self.refused(house, NotNow, "ended", "move", "root", 1, 2)

    def test_steps_of_other_kinds(self):
        kinds = (task("ink"), CHOICE, ("signal", "go"), ("wait", 4, None), PLAIN)
        nets = [row_of(CHOICE, kind, CHOICE) for kind in kinds]
        house = started(*nets)
        house.move("root", 1, 2)
        house.choose("root", 1, "a")
        for version, tasks, waits in ((1, 1, 0), (2, 0, 0), (3, 0, 0), (4, 0, 1)):
            house.move("root", 1, version)
            self.assertEqual((len(house.tasks()), len(house.waits())), (tasks, waits))
            self.steps_taken(house, 1, "a")
        house.move("root", 1, 5)
        self.steps_taken(house, 1, "a", "b")

    def test_as_fits_and_marking_after_tell(self):
        nets = (ROUND, (7, ROUND[1][::-1]), LETTER, SIDES, (7, tuple(row for row in ROUND[1] if row[0] != "back")))
        house = house_of(*nets)
        house.start("root", "letter", 0)
        house.move("root", 1, 1)
        self.work(house, "pens")
        for number, name in ((1, "y"), (1, "x")):
            house.choose("root", number, name)
        later(house, 5)
        house.signal("root", 1, "go")
        self.work(house, "pens")
        taken = house.instance(1)[6]
        self.assertEqual(taken, ("split", "y", "x", "join", "back", "split"))
        for version in (1, 2, 3, 4, 5):
            wrong = fits(nets[version - 1], taken)
            if wrong is None:
                house.move("root", 1, version)
                self.marking(house, 1, marking_after(nets[version - 1], taken))
            else:
                self.refused(house, NoMove, wrong, "move", "root", 1, version)
        self.refused(house, NoMove, 4, "move", "root", 1, 5)


if __name__ == "__main__":
    unittest.main()
