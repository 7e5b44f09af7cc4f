"""Points [28] to [30]: markings, enabled steps, taking them."""

import copy
import unittest

from samples import CHOICE, LETTER, NO_NETS, NO_SEQUENCES, SIDES, as_lists, is_plain, mixed, step

from wholeflow.errors import BadValue, Doubled
from wholeflow.nets import after, enabled

NO_MARKINGS = NO_SEQUENCES + (
    (6,), (-1,), (1, 0), (0, 0), (True,), (False,), (0, True), ("0",), (None,), ((0,),), (0, 10 ** 30),
)


class EnabledTest(unittest.TestCase):

    def test_example(self):
        self.assertEqual(enabled(LETTER, (0,)), ("write",))
        self.assertEqual(enabled(LETTER, (2,)), ("check", "again"))
        self.assertEqual(enabled(LETTER, (1,)), ())

    def test_all_ins_need_tokens(self):
        self.assertEqual(enabled(SIDES, (4,)), ())
        self.assertEqual(enabled(SIDES, (4, 5)), ("join",))

    def test_sequence_is_that_of_the_steps(self):
        self.assertEqual(enabled(SIDES, (2, 3)), ("right", "left"))
        self.assertEqual(enabled(SIDES, (0, 1, 2, 3, 4, 5)), ("split", "right", "left", "join"))

    def test_edges(self):
        self.assertEqual(enabled(LETTER, ()), ())
        self.assertEqual(enabled((2, ()), (0, 1)), ())
        self.assertEqual(enabled((8, ()), (7,)), ())

    def test_lists_and_names(self):
        self.assertEqual(enabled(as_lists(SIDES), [2, 3]), ("right", "left"))
        self.assertEqual(enabled(mixed(SIDES), (2, 3)), ("right", "left"))
        told = enabled(marking=[2], net=as_lists(LETTER))
        self.assertEqual(told, ("check", "again"))
        self.assertTrue(is_plain(told))

    def test_wrong_arguments(self):
        for value in NO_NETS:
            for marking in ((0,), None):
                with self.assertRaises(BadValue) as caught:
                    enabled(value, marking)
                self.assertEqual(caught.exception.at, 0)
        for marking in NO_MARKINGS:
            with self.assertRaises(BadValue) as caught:
                enabled(SIDES, marking)
            self.assertEqual(caught.exception.at, 1)

    def test_arguments_stay(self):
        net, marking = as_lists(SIDES), [2, 3]
        before = copy.deepcopy(net)
        enabled(net, marking)
        self.assertEqual((net, marking), (before, [2, 3]))


class AfterTest(unittest.TestCase):

    def test_example(self):
        self.assertEqual(after(LETTER, (0,), "write"), (2,))
        self.assertEqual(after(LETTER, (2,), "check"), (1,))
        self.assertEqual(after(LETTER, (2,), "again"), (0,))

    def test_tokens_ascend(self):
        self.assertEqual(after(SIDES, (0,), "split"), (2, 3))
        self.assertEqual(after(SIDES, (2, 3), "right"), (2, 5))
        self.assertEqual(after(SIDES, (2, 5), "left"), (4, 5))
        self.assertEqual(after(SIDES, (4, 5), "join"), (1,))
        self.assertEqual(after(SIDES, (0, 4, 5), "join"), (0, 1))

    def test_ins_that_are_outs(self):
        net = (4, (step("a", CHOICE, [0, 2], [0, 2, 3]),))
        self.assertEqual(after(net, (0, 2), "a"), (0, 2, 3))
        self.assertEqual(after(net, (0, 1, 2), "a"), (0, 1, 2, 3))

    def test_doubled_tells_the_least_place(self):
        net = (6, (step("a", CHOICE, [2], [1, 2, 3, 4, 5]), step("b", CHOICE, [2], [0])))
        for marking, place in (((2, 3), 3), ((2, 4, 5), 4), ((1, 2, 5), 1), ((2, 5), 5)):
            with self.assertRaises(Doubled) as caught:
                after(net, marking, "a")
            self.assertEqual(caught.exception.place, place)
        with self.assertRaises(Doubled) as caught:
            after(net, (0, 2), "b")
        self.assertEqual(caught.exception.place, 0)
        self.assertEqual(after(net, (2,), "a"), (1, 2, 3, 4, 5))

    def test_lists_and_names(self):
        told = after(name="split", net=as_lists(SIDES), marking=[0])
        self.assertEqual(told, (2, 3))
        self.assertTrue(is_plain(told))
        self.assertEqual(after(mixed(SIDES), [4, 5], "join"), (1,))

    def test_wrong_arguments_in_their_order(self):
        for value in NO_NETS:
            for marking, name in (((0,), "split"), (None, "split"), (None, None)):
                with self.assertRaises(BadValue) as caught:
                    after(value, marking, name)
                self.assertEqual(caught.exception.at, 0)
        for marking in NO_MARKINGS:
            for name in ("split", None):
                with self.assertRaises(BadValue) as caught:
                    after(SIDES, marking, name)
                self.assertEqual(caught.exception.at, 1)

    def test_names_of_no_enabled_step(self):
        for name in ("left", "join", "none", "", "Split", None, True, 0, (), [], ("split",), "a" * 20000):
            with self.assertRaises(BadValue) as caught:
                after(SIDES, (0,), name)
            self.assertEqual(caught.exception.at, 2)
        with self.assertRaises(BadValue) as caught:
            after(SIDES, (), "split")
        self.assertEqual(caught.exception.at, 2)

    def test_arguments_stay(self):
        net, marking = as_lists(SIDES), [2, 3]
        before = copy.deepcopy(net)
        after(net, marking, "left")
        self.assertEqual((net, marking), (before, [2, 3]))


if __name__ == "__main__":
    unittest.main()
