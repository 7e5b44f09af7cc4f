"""Point [40]: finish, and promise [3]."""

import copy
import unittest

from samples import (
    CHOICE, CHOICES, DOUBLES, LEAVES, LETTER, NEVER, NO_NETS, NO_SEQUENCES, ROUND, ROW, SIDES, SOUND,
    STICKS, TASK, as_lists, is_plain, mixed, step,
)

from wholeflow.errors import BadValue
from wholeflow.sound import finish, grounds


class FinishTest(unittest.TestCase):

    def test_example(self):
        self.assertEqual(finish(LETTER, (0,)), ("write", "check"))

    def test_from_the_start(self):
        self.assertEqual(finish(ROW, (0,)), ("a", "b", "c", "d", "e"))
        self.assertEqual(finish(CHOICES, (0,)), ("short",))
        self.assertEqual(finish(SIDES, (0,)), ("split", "left", "right", "join"))
        self.assertEqual(finish(ROUND, (0,)), ("split", "x", "y", "join", "out"))
        self.assertEqual(finish(NEVER, (0,)), ("one",))
        self.assertEqual(finish(STICKS, (0,)), ("ok", "on"))

    def test_from_markings_of_runs(self):
        self.assertEqual(finish(LETTER, (2,)), ("check",))
        self.assertEqual(finish(SIDES, (2, 5)), ("left", "join"))
        self.assertEqual(finish(ROUND, (6,)), ("out",))
        self.assertEqual(finish(CHOICES, (2,)), ("rest", "last"))

    def test_from_the_end(self):
        for net in SOUND:
            self.assertEqual(finish(net, (1,)), ())

    def test_each_marking_of_a_sound_net_has_a_way(self):
        for net in SOUND:
            for marking, _, rank in grounds(net)[0]:
                self.assertEqual(len(finish(net, marking)), rank)

    def test_from_other_markings(self):
        self.assertEqual(finish(SIDES, (3, 4)), ("right", "join"))
        self.assertIsNone(finish(SIDES, (2,)))
        self.assertIsNone(finish(SIDES, (0, 2)))
        self.assertIsNone(finish(SIDES, (1, 2)))
        self.assertEqual(finish(ROUND, (2, 5)), ("x", "join", "out"))
        self.assertIsNone(finish(LETTER, ()))
        self.assertIsNone(finish((2, ()), (0,)))
        self.assertIsNone(finish((2, ()), ()))
        self.assertEqual(finish((2, ()), (1,)), ())

    def test_no_way(self):
        self.assertIsNone(finish(LEAVES, (0,)))
        self.assertIsNone(finish(STICKS, (2,)))

    def test_ways_do_not_double(self):
        self.assertIsNone(finish(DOUBLES, (2, 3)))
        net = (4, (step("a", CHOICE, [2], [3]), step("b", CHOICE, [3], [0]), step("c", CHOICE, [0, 3], [1])))
        self.assertEqual(finish(net, (2, 3)), ("b", "a", "c"))

    def test_the_first_of_the_shortest(self):
        net = (4, (
            step("d", CHOICE, [0], [2]), step("b", CHOICE, [0], [3]), step("c", CHOICE, [0], [2]),
            step("z", CHOICE, [3], [1]), step("a", CHOICE, [2], [1]), step("y", CHOICE, [3], [1]),
        ))
        self.assertEqual(finish(net, (0,)), ("b", "y"))
        self.assertEqual(finish(net, (2,)), ("a",))

    def test_shorter_is_ahead_of_first(self):
        net = (4, (step("a", CHOICE, [0], [2]), step("b", CHOICE, [2], [1]), step("z", CHOICE, [0], [1])))
        self.assertEqual(finish(net, (0,)), ("z",))

    def test_eight_places_and_ten_steps(self):
        steps = [step("go", TASK, [0], [2, 3, 4, 5, 6, 7]), step("out", TASK, [2, 3, 4, 5, 6, 7], [1])]
        steps += [step("abcdefgh"[at], CHOICE, [at % 6 + 2], [at % 6 + 2]) for at in range(8)]
        self.assertEqual(finish((8, tuple(steps)), (0,)), ("go", "out"))
        self.assertIsNone(finish((8, tuple(steps)), (2, 3, 4, 5, 6)))

    def test_lists_and_names(self):
        for net in SOUND:
            self.assertEqual(finish(as_lists(net), [0]), finish(net, (0,)))
            self.assertTrue(is_plain(finish(mixed(net), [0])))
        self.assertEqual(finish(marking=[2], net=LETTER), ("check",))

    def test_wrong_arguments_in_their_order(self):
        for value in NO_NETS:
            for marking in ((0,), None):
                with self.assertRaises(BadValue) as caught:
                    finish(value, marking)
                self.assertEqual(caught.exception.at, 0)
        for marking in NO_SEQUENCES + ((6,), (-1,), (1, 0), (0, 0), (True,), (False,), ("0",), ((0,),), (None,)):
            with self.assertRaises(BadValue) as caught:
                finish(SIDES, marking)
            self.assertEqual(caught.exception.at, 1)

    def test_arguments_stay(self):
        net, marking = as_lists(ROUND), [2, 3]
        before = copy.deepcopy(net)
        finish(net, marking)
        self.assertEqual((net, marking), (before, [2, 3]))


if __name__ == "__main__":
    unittest.main()
