"""Points [26] and [27]: kinds, steps and nets."""

import copy
import unittest

from samples import (
    CHOICE, NO_NETS, NO_SEQUENCES, PLAIN, SIGNAL, SOUND, TASK, UNSOUND, WAIT, as_lists, mixed, step,
)

from wholeflow.nets import is_net


def with_kind(kind):
    return 2, (("a", kind, (0,), (1,)),)


def with_steps(*steps, places=8):
    return places, steps


class CaseOfNets(unittest.TestCase):

    def yes(self, value):
        self.assertIs(is_net(value), True, value)

    def no(self, value):
        self.assertIs(is_net(value), False, value)


class NetsTest(CaseOfNets):

    def test_nets(self):
        for net in SOUND + UNSOUND:
            self.yes(net)
            self.yes(as_lists(net))
            self.yes(mixed(net))
        self.assertIs(is_net(value=SOUND[0]), True)

    def test_no_nets(self):
        for value in NO_NETS:
            self.no(value)

    def test_argument_stays(self):
        net = as_lists(SOUND[1])
        before = copy.deepcopy(net)
        self.yes(net)
        self.assertEqual(net, before)

    def test_places(self):
        for places in range(2, 9):
            self.yes((places, ()))
        for places in (-1, 0, 1, 9, 10 ** 30, True, "2", None, (2,)):
            self.no((places, ()))

    def test_numbers_of_steps(self):
        names = "abcdefghijk"
        steps = tuple(step(name, CHOICE, [0], [1]) for name in names)
        for many in range(11):
            self.yes((2, steps[:many]))
        self.no((2, steps))

    def test_large_values(self):
        self.no((2, tuple([None] * 19000)))
        self.no((2, (("a", PLAIN, tuple(range(9000)), tuple(range(9000))),)))
        deep = ()
        for _ in range(18):
            deep = (deep,)
        self.no(deep)
        self.no((2, deep))

    def test_names(self):
        for name in ("a", "abcdefgh"):
            self.yes((2, (step(name, CHOICE, [0], [1]),)))
        for name in ("", "abcdefghi", "A", "a1", None, 1, True, ("a",)):
            self.no((2, (step(name, CHOICE, [0], [1]),)))

    def test_different_names(self):
        self.no(with_steps(step("a", CHOICE, [0], [1]), step("a", TASK, [2], [1])))
        self.no(with_steps(step("a", TASK, [0], [1]), step("b", TASK, [2], [1]),
                           step("a", TASK, [3], [1])))

    def test_steps_are_quadruples(self):
        right = step("a", CHOICE, [0], [1])
        self.no((2, (right[:3],)))
        self.no((2, (right + (None,),)))
        self.no((2, right))
        for value in NO_SEQUENCES:
            self.no((2, (value,)))


class PlacesTest(CaseOfNets):

    def test_ins(self):
        for ins in ((0,), (0, 2), (2, 3, 7), [0, 7]):
            self.yes((8, (("a", CHOICE, ins, (1,)),)))
        for ins in ((), (1,), (0, 1), (2, 0), (0, 0), (8,), (-1,), (True,), (False,), ("0",), (None,),
                    ((0,),)) + NO_SEQUENCES:
            self.no((8, (("a", CHOICE, ins, (1,)),)))

    def test_outs(self):
        for outs in ((0,), (1,), (0, 1, 7), [7], tuple(range(8))):
            self.yes((8, (("a", CHOICE, (0,), outs),)))
        for outs in ((), (2, 1), (2, 2), (8,), (-1,), (True,), ("0",), (None,), ((0,),)) + NO_SEQUENCES:
            self.no((8, (("a", CHOICE, (0,), outs),)))

    def test_places_end_at_the_number(self):
        self.yes((3, (step("a", CHOICE, [2], [2]),)))
        self.no((2, (step("a", CHOICE, [2], [1]),)))
        self.no((2, (step("a", CHOICE, [0], [2]),)))

    def test_the_end_is_no_in_of_any_kind(self):
        for kind in (PLAIN, CHOICE, SIGNAL, WAIT, TASK):
            self.yes((3, (("a", kind, (0,), (1, 2)),)))
            self.no((3, (("a", kind, (1,), (2,)),)))
            self.no((3, (("b", kind, (0,), (2,)), ("a", kind, (1, 2), (0,)))))

    def test_ins_of_plain_steps_are_their_own(self):
        for kind in (PLAIN, CHOICE, SIGNAL, WAIT, TASK):
            plain = step("a", PLAIN, [0, 2], [1])
            self.no(with_steps(plain, step("b", kind, [2, 3], [1])))
            self.no(with_steps(step("b", kind, [2, 3], [1]), plain))
            self.no(with_steps(step("b", kind, [2], [1]), step("c", TASK, [4], [1]), plain))
            self.yes(with_steps(plain, step("b", kind, [3], [1])))
        self.yes(with_steps(step("a", PLAIN, [0], [2]), step("b", PLAIN, [3], [2])))

    def test_ins_of_others_may_be_shared(self):
        for kind in (CHOICE, SIGNAL, WAIT, TASK):
            self.yes(with_steps(step("a", CHOICE, [0, 2], [1]), step("b", kind, [0, 2], [1])))


class KindsTest(CaseOfNets):

    def kinds(self, right, wrong):
        for kind in right:
            self.yes(with_kind(kind))
            self.yes(with_kind(as_lists(kind)))
        for kind in wrong:
            self.no(with_kind(kind))

    def test_plain_and_choice(self):
        self.kinds((("plain",), ("choice",)),
                   (("plain", None), ("choice", "a"), ("Plain",), ("plains",), "plain", "choice",
                    (), ("",), (None,), (("plain",),), (1,), (True,)) + NO_SEQUENCES)

    def test_signals(self):
        self.kinds((("signal", "a"), ("signal", "abcdefgh"), ("signal", "signal")),
                   (("signal",), ("signal", ""), ("signal", "abcdefghi"), ("signal", "A"),
                    ("signal", None), ("signal", 1), ("signal", ("a",)), ("signal", "a", "b")))

    def test_waits(self):
        self.kinds((("wait", 1, None), ("wait", 1000, None), ("wait", 3, (1, (0,))),
                    ("wait", 3, (28, (0, 27)))),
                   (("wait", 0, None), ("wait", 1001, None), ("wait", -1, None), ("wait", True, None),
                    ("wait", "1", None), ("wait", None, None), ("wait", 1), ("wait",),
                    ("wait", 1, None, None), ("wait", None, 1), ("wait", (1,), None)))

    def test_calendars_of_waits(self):
        wrong = [(0, (0,)), (29, (0,)), (7, (7,)), (7, (-1,)), (7, ()), (7, (1, 0)), (7, (1, 1)),
                 (True, (0,)), (7, (True,)), (7, "0"), (7,), (7, (0,), 1), (), "", 7, False]
        self.kinds((), [("wait", 5, calendar) for calendar in wrong])

    def test_tasks(self):
        self.kinds((("task", "a", 1, 1, None), ("task", "abcdefgh", 5, 1000, "abcdefgh")), ())
        for at, wrong in ((1, ("", "abcdefghi", "A", None, 1, ("a",))),
                          (2, (0, 6, -1, True, "1", None, (1,))),
                          (3, (0, 1001, -1, True, "1", None, (1,))),
                          (4, ("", "abcdefghi", "A", 1, False, (), ("a",)))):
            kinds = [TASK[:at] + (value,) + TASK[at + 1:] for value in wrong]
            self.kinds((TASK,), kinds)
        self.kinds((), (TASK[:4], TASK + (None,), ("task",)))

    def test_other_first_words(self):
        for word in ("tasks", "", "Task", None, 1, ("task",)):
            self.kinds((), ((word,), (word, "a"), (word, 5, None), (word,) + TASK[1:]))

    def test_kinds_with_words_that_are_kinds_too(self):
        for kind in (("signal", "plain"), ("signal", "wait"), ("task", "plain", 1, 1, "plain")):
            self.yes(with_steps(step("a", kind, [0, 2], [1]), step("b", kind, [2], [1])))
            self.yes(with_steps(step("a", kind, [0], [0])))


class CirclesTest(CaseOfNets):

    def test_circles_of_plain_steps_and_waits(self):
        for one in (PLAIN, WAIT):
            self.no(with_steps(step("a", one, [2], [2])))
            self.no(with_steps(step("a", one, [2], [1, 2])))
            for other in (PLAIN, WAIT):
                self.no(with_steps(step("a", one, [2], [3]), step("b", other, [3], [2])))
                self.no(with_steps(step("a", one, [2], [3]), step("b", other, [3], [4]),
                                   step("c", PLAIN, [0, 4], [1, 2])))

    def test_circles_that_only_some_of_the_steps_make(self):
        self.no(with_steps(step("a", PLAIN, [0], [2]), step("b", WAIT, [2], [3]),
                           step("c", PLAIN, [3], [2, 4]), step("d", PLAIN, [4], [1])))

    def test_circles_with_another_step(self):
        for kind in (CHOICE, SIGNAL, TASK):
            self.yes(with_steps(step("a", kind, [2], [2])))
            self.yes(with_steps(step("a", PLAIN, [2], [3]), step("b", kind, [3], [2])))
            self.yes(with_steps(step("a", PLAIN, [2], [3]), step("b", WAIT, [3], [4]),
                                step("c", kind, [4], [2])))

    def test_rows_of_plain_steps_and_waits(self):
        steps = [step("a", PLAIN, [0], [2, 3]), step("b", WAIT, [2], [4]), step("c", WAIT, [3], [5]),
                 step("d", PLAIN, [4, 5], [1])]
        self.yes(with_steps(*steps))
        self.yes(with_steps(*reversed(steps)))

    def test_two_waits_that_share_an_in(self):
        self.yes(with_steps(step("a", WAIT, [2], [3]), step("b", WAIT, [2], [3])))
        self.no(with_steps(step("a", WAIT, [2], [3]), step("b", WAIT, [2, 3], [1]),
                           step("c", WAIT, [3], [2])))


if __name__ == "__main__":
    unittest.main()
