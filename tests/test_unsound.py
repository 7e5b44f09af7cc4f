"""Points [31] to [37]: unsound and shows, and promise [1]."""

import copy
import unittest

from samples import (
    CHOICE, DOUBLES, LEAVES, LETTER, NEVER, NO_NETS, NO_SEQUENCES, PLAIN, ROUND, SIDES, SOUND, STICKS,
    TASK, UNSOUND, WAIT, as_lists, is_plain, mixed, step,
)

from wholeflow.errors import BadValue
from wholeflow.sound import shows, unsound

WORDS = ("doubled", "left", "stuck", "never")


class UnsoundTest(unittest.TestCase):

    def tells(self, net, told):
        self.assertEqual(unsound(net), told)
        self.assertEqual(unsound(as_lists(net)), told)
        self.assertTrue(is_plain(unsound(mixed(net))))

    def test_sound_nets(self):
        for net in SOUND:
            self.assertIsNone(unsound(net))
            self.assertIsNone(unsound(as_lists(net)))

    def test_each_word(self):
        self.tells(DOUBLES, ("doubled", ("aa", "b")))
        self.tells(LEAVES, ("left", ("a", "b")))
        self.tells(STICKS, ("stuck", ("trap",)))
        self.tells(NEVER, ("never", ("two",)))

    def test_no_steps(self):
        self.tells((2, ()), ("stuck", ()))
        self.tells((8, ()), ("stuck", ()))

    def test_two_places(self):
        self.tells((2, (step("a", PLAIN, [0], [1]),)), None)
        self.tells((2, (step("a", TASK, [0], [0]),)), ("stuck", ()))
        self.tells((2, (step("a", TASK, [0], [0, 1]),)), ("left", ("a",)))
        self.tells((2, (step("b", TASK, [0], [0]), step("a", TASK, [0], [1]))), None)

    def test_stuck_from_the_start(self):
        self.tells((3, (step("a", TASK, [0], [2]), step("b", TASK, [2], [0]))), ("stuck", ()))

    def test_the_first_of_several_doubles(self):
        net = (5, (
            step("z", CHOICE, [0], [2, 3]), step("y", CHOICE, [0], [2, 4]),
            step("d", CHOICE, [2], [4]), step("c", CHOICE, [2], [3]), step("j", CHOICE, [3, 4], [1]),
        ))
        self.tells(net, ("doubled", ("y", "d")))

    def test_a_double_and_a_leaving_of_the_same_length(self):
        steps = [step("s", TASK, [0], [2, 3]), step("a", CHOICE, [2], [3]), step("b", CHOICE, [3], [1])]
        self.tells((4, tuple(steps)), ("doubled", ("s", "a")))
        steps[1] = step("c", CHOICE, [2], [3])
        self.tells((4, tuple(steps)), ("left", ("s", "b")))

    def test_shorter_is_ahead_of_first(self):
        net = (5, (
            step("a", CHOICE, [0], [2]), step("b", CHOICE, [2], [1, 3]),
            step("z", CHOICE, [0], [1, 4]),
        ))
        self.tells(net, ("left", ("z",)))

    def test_a_double_far_away_is_ahead_of_a_stuck_run(self):
        net = (6, (
            step("a", CHOICE, [0], [5]), step("b", CHOICE, [0], [2]), step("c", CHOICE, [2], [3]),
            step("d", CHOICE, [3], [1, 4]), step("e", CHOICE, [0], [1]),
        ))
        self.tells(net, ("left", ("b", "c", "d")))

    def test_a_stuck_run_is_ahead_of_a_step_never_taken(self):
        net = (4, (
            step("never", CHOICE, [3], [1]), step("b", CHOICE, [0], [1]), step("a", CHOICE, [0], [2]),
        ))
        self.tells(net, ("stuck", ("a",)))

    def test_the_first_of_the_shortest_stuck_runs(self):
        net = (5, (
            step("ok", CHOICE, [0], [1]), step("q", CHOICE, [0], [3]), step("p", CHOICE, [0], [2]),
            step("z", CHOICE, [2], [4]), step("r", CHOICE, [3], [4]), step("y", CHOICE, [2], [1]),
            step("x", CHOICE, [3], [1]),
        ))
        self.tells(net, ("stuck", ("p", "z")))

    def test_the_first_way_to_a_marking_with_several(self):
        net = (4, (
            step("c", CHOICE, [0], [2]), step("b", CHOICE, [0], [2]), step("d", CHOICE, [2], [3]),
            step("a", CHOICE, [2], [3]), step("e", CHOICE, [2], [1]),
        ))
        self.tells(net, ("stuck", ("b", "a")))

    def test_names_are_ordered_as_strings(self):
        net = (3, (step("b", CHOICE, [0], [2]), step("aa", CHOICE, [0], [2]), step("ab", CHOICE, [0], [1])))
        self.tells(net, ("stuck", ("aa",)))

    def test_circle_that_doubles_later(self):
        net = (4, (
            step("a", TASK, [0], [2, 3]), step("b", CHOICE, [2], [0]), step("c", CHOICE, [2, 3], [1]),
        ))
        self.tells(net, ("doubled", ("a", "b", "a")))

    def test_the_first_never_taken_by_sequence_of_the_steps(self):
        steps = [step("z", CHOICE, [2], [1]), step("a", CHOICE, [2], [1]), step("b", CHOICE, [0], [1])]
        self.tells((3, tuple(steps)), ("never", ("z",)))

    def test_ten_steps_and_eight_places(self):
        middle = [2, 3, 4, 5, 6, 7]
        wide = [step("go", TASK, [0], middle), step("end", CHOICE, middle, [1])]
        wide += [step("r" + "abcdef"[at], TASK, [place], [place]) for at, place in enumerate(middle)]
        self.tells((8, tuple(wide)), None)
        line = [step("abcdefg"[at], WAIT, [place], [(middle + [1])[at]])
                for at, place in enumerate([0] + middle)]
        self.tells((8, tuple(line)), None)
        more = [step(name, CHOICE, [0], [1]) for name in ("x", "y", "z")]
        self.tells((8, tuple(line + more)), None)

    def test_wrong_arguments(self):
        for value in NO_NETS:
            with self.assertRaises(BadValue) as caught:
                unsound(value)
            self.assertEqual(caught.exception.at, 0)
        with self.assertRaises(BadValue):
            unsound((2, tuple(step(name, TASK, [0], [1]) for name in "abcdefghijk")))
        self.assertIsNone(unsound((2, tuple(step(name, TASK, [0], [1]) for name in "abcdefghij"))))

    def test_argument_stays(self):
        net = as_lists(ROUND)
        before = copy.deepcopy(net)
        self.assertIsNone(unsound(net=net))
        self.assertEqual(net, before)


class ShowsTest(unittest.TestCase):

    def tells(self, net, word, names, told):
        self.assertIs(shows(net, word, names), told, (word, names))
        self.assertIs(shows(as_lists(net), word, as_lists(names)), told, (word, names))

    def test_what_unsound_tells(self):
        for net in UNSOUND:
            word, names = unsound(net)
            # No step takes a token of the end away: what leaves is stuck, too.
            right = ("left", "stuck") if word == "left" else (word,)
            for other in WORDS:
                self.tells(net, other, names, other in right)

    def test_nothing_of_sound_nets(self):
        for net in SOUND:
            for word in WORDS:
                for names in [()] + [(row[0],) for row in net[1]]:
                    self.tells(net, word, names, False)

    def test_doubled(self):
        self.tells(DOUBLES, "doubled", ("aa", "b"), True)
        self.tells(DOUBLES, "doubled", ("aa",), False)
        self.tells(DOUBLES, "doubled", ("b",), False)
        self.tells(DOUBLES, "doubled", (), False)
        self.tells(DOUBLES, "doubled", ("aa", "c"), False)
        self.tells(DOUBLES, "doubled", ("aa", "b", "b"), False)
        self.tells(DOUBLES, "doubled", ("b", "b"), False)
        self.tells(DOUBLES, "doubled", ("aa", "none"), False)

    def test_doubled_need_not_be_the_shortest(self):
        net = (4, (
            step("a", TASK, [0], [2, 3]), step("b", CHOICE, [2], [0]), step("c", CHOICE, [2, 3], [1]),
            step("d", CHOICE, [0], [0]),
        ))
        self.tells(net, "doubled", ("d", "d", "a", "b", "d", "a"), True)

    def test_left(self):
        self.tells(LEAVES, "left", ("a", "b"), True)
        self.tells(LEAVES, "left", ("a",), False)
        self.tells(LEAVES, "left", (), False)
        self.tells(LEAVES, "left", ("b",), False)
        self.tells(LEAVES, "left", ("a", "b", "b"), False)
        self.tells(LETTER, "left", ("write", "check"), False)

    def test_stuck(self):
        self.tells(STICKS, "stuck", ("trap",), True)
        self.tells(STICKS, "stuck", (), False)
        self.tells(STICKS, "stuck", ("ok",), False)
        self.tells(STICKS, "stuck", ("ok", "on"), False)
        self.tells(STICKS, "stuck", ("trap", "ok"), False)
        self.tells((2, ()), "stuck", (), True)

    def test_runs_that_leave_are_stuck(self):
        self.tells(LEAVES, "stuck", ("a", "b"), True)

    def test_ways_that_double_are_no_ways(self):
        net = (4, (step("a", TASK, [0], [2, 3]), step("b", CHOICE, [2], [3]), step("c", TASK, [3], [1])))
        self.tells(net, "stuck", (), True)
        self.tells(net, "stuck", ("a",), True)
        self.tells(net, "stuck", ("a", "b"), False)

    def test_never(self):
        self.tells(NEVER, "never", ("two",), True)
        self.tells(NEVER, "never", ("three",), True)
        self.tells(NEVER, "never", ("one",), False)
        self.tells(NEVER, "never", (), False)
        self.tells(NEVER, "never", ("two", "three"), False)
        self.tells(NEVER, "never", ("none",), False)
        self.assertIs(shows(NEVER, "never", "two"), False)

    def test_what_doubles_each_time_is_never_taken(self):
        net = (4, (step("a", TASK, [0], [2, 3]), step("b", CHOICE, [2], [3]), step("c", TASK, [2, 3], [1])))
        self.tells(net, "never", ("b",), True)
        self.tells(net, "never", ("c",), False)

    def test_names_of_any_kind(self):
        values = NO_SEQUENCES + ((None,), (True,), (0,), ((),), [[]], (("aa", "b"),), ("aa", None),
                                 ("aa", ("b",)), ("aa", 1), "aab", ("a" * 20000,), ((("b",),),))
        for net in SOUND + UNSOUND:
            for word in WORDS:
                for names in values:
                    self.assertIs(shows(net, word, names), False, (word, names))

    def test_long_sequences(self):
        names = ("write", "again") * 5000
        for word in WORDS:
            self.tells(LETTER, word, names, False)
            self.tells(LETTER, word, names + ("again",), False)

    def test_wrong_arguments_in_their_order(self):
        for value in NO_NETS:
            for word in ("stuck", None):
                with self.assertRaises(BadValue) as caught:
                    shows(value, word, None)
                self.assertEqual(caught.exception.at, 0)
        for word in NO_SEQUENCES + ("Doubled", "doubles", "lef", "nevers", (), ("stuck",), ["never"], WORDS):
            for names in ((), None):
                with self.assertRaises(BadValue) as caught:
                    shows(SIDES, word, names)
                self.assertEqual(caught.exception.at, 1)

    def test_names_of_the_arguments_and_that_they_stay(self):
        net, names = as_lists(LEAVES), ["a", "b"]
        self.assertIs(shows(names=names, word="left", net=net), True)
        self.assertEqual((net, names), (as_lists(LEAVES), ["a", "b"]))


if __name__ == "__main__":
    unittest.main()
