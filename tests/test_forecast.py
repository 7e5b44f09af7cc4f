"""Points [46] to [49], and promise [6]: circles, and when nets are finished."""

import random
import unittest

import reference
import reference_runs
from checks import Checks
from makers import nets
from samples import (
    CHOICE, CHOICES, DOUBLES, LEAVES, LETTER, NEVER, NO_INTEGERS, NO_NETS, NO_SEQUENCES, PLAIN, ROUND, ROW, SIDES,
    STICKS, TASK, UNSOUND, as_lists, is_plain, mixed, step,
)

from wholeflow.forecast import has_circle, longest, shortest, span
from wholeflow.sound import unsound

EMPTY = (2, ())
SHORT = (2, (step("a", TASK, [0], [1]),))

# All markings of its run differ, though "s" is taken twice.
TWICE = (6, (
    step("a", TASK, [0], [2, 4]),
    step("s", CHOICE, [2], [3]),
    step("c", TASK, [3, 4], [2, 5]),
    step("d", TASK, [3, 5], [1]),
))

# Its places stand in a circle, 2 to 3 and back to 2, but no run goes round it.
HALF = (6, (
    step("a", TASK, [0], [2, 4]),
    step("x", CHOICE, [2, 4], [3]),
    step("y", TASK, [3], [2, 5]),
    step("z", CHOICE, [2, 5], [1]),
))

# Ten steps one behind the other: each pair of places has a step of its own.
PAIRS = [(2, 3), (2, 4), (2, 5), (2, 6), (2, 7), (3, 4), (3, 5), (3, 6), (3, 7)]
LONG = (8, tuple(step("abcdefghij"[at], TASK, ins, outs)
                 for at, (ins, outs) in enumerate(zip([(0,)] + PAIRS, PAIRS + [(1,)]))))

# Choices in two parts side by side, and one behind both.
MIXED = (8, (
    step("split", PLAIN, [0], [2, 3]),
    step("quick", CHOICE, [2], [4]),
    step("slow", CHOICE, [2], [5]),
    step("rest", TASK, [5], [4]),
    step("one", CHOICE, [3], [6]),
    step("other", TASK, [3], [6]),
    step("both", CHOICE, [4, 6], [7]),
    step("end", TASK, [7], [1]),
    step("now", CHOICE, [4, 6], [1]),
))

# The token of 7 is passed from one part to the other: which part has it first is a matter of the run.
SHARED = (8, (
    step("a", CHOICE, [0], [2, 7]),
    step("b", CHOICE, [7], [6]),
    step("c", CHOICE, [2, 7], [5, 7]),
    step("e", CHOICE, [3, 4], [1]),
    step("f", CHOICE, [5, 7], [4, 7]),
    step("i", CHOICE, [2], [5]),
    step("g", CHOICE, [5], [4]),
    step("j", CHOICE, [0], [2, 7]),
    step("h", CHOICE, [7], [6]),
    step("d", CHOICE, [6], [3]),
))

STRAIGHT = (SHORT, ROW, CHOICES, SIDES, HALF, LONG, MIXED, SHARED)
ROUNDS = (LETTER, ROUND, TWICE)


def times_of(net, low, high):
    return ((low, high),) * len(net[1])


class HasCircleTest(Checks):

    def test_twice_round(self):
        self.assertIs(has_circle(LETTER), True)
        self.assertIs(has_circle(ROUND), True)
        self.assertIs(has_circle((2, (step("a", CHOICE, [0], [0]), step("b", CHOICE, [0], [1])))), True)
        self.assertIs(has_circle((2, (step("a", CHOICE, [0], [0]),))), True)

    def test_all_markings_differ(self):
        run = ("a", "s", "c", "s", "d")
        markings = [reference.lead(TWICE, run[:many]) for many in range(6)]
        self.assertEqual(len(set(markings)), 6)
        self.assertEqual(markings[-1], (1,))
        self.assertIs(has_circle(TWICE), True)

    def test_a_circle_that_no_run_takes(self):
        self.assertIs(has_circle(HALF), False)
        self.assertIs(has_circle((3, (step("a", CHOICE, [0], [1]), step("b", CHOICE, [2], [2])))), False)
        self.assertIs(has_circle((3, (step("a", CHOICE, [2], [0]), step("b", CHOICE, [0, 2], [2])))), False)

    def test_doubling_is_not_taking(self):
        self.assertIs(has_circle((3, (step("a", CHOICE, [0], [0, 2]),))), False)
        self.assertIs(has_circle((3, (step("a", CHOICE, [0], [0, 2]), step("b", CHOICE, [2], [1])))), True)
        self.assertIs(has_circle((3, (step("a", CHOICE, [0], [0, 1]), step("b", CHOICE, [2], [1])))), False)

    def test_without_circles(self):
        for net in STRAIGHT:
            self.assertIs(has_circle(net), False)

    def test_no_steps_and_none_enabled(self):
        self.assertIs(has_circle(EMPTY), False)
        self.assertIs(has_circle((8, ())), False)
        self.assertIs(has_circle((4, (step("a", CHOICE, [2], [2]), step("b", TASK, [0, 3], [0])))), False)

    def test_unsound_nets(self):
        for net in UNSOUND:
            self.assertIs(has_circle(net), reference_runs.has_circle(net))
        self.assertIs(has_circle((3, (step("a", CHOICE, [0], [2]), step("b", CHOICE, [2], [0])))), True)
        self.assertIs(has_circle((3, (step("a", CHOICE, [0], [2]), step("b", CHOICE, [2], [2])))), True)

    def test_a_circle_behind_ten_steps(self):
        steps = LONG[1][:9] + (step("j", TASK, PAIRS[-1], PAIRS[-2]),)
        self.assertIs(has_circle((8, steps)), True)
        self.assertIs(has_circle((8, LONG[1][:9] + (step("j", TASK, PAIRS[-1], [0, 1]),))), True)
        self.assertIs(has_circle((8, LONG[1][:9])), False)

    def test_all_markings_at_once(self):
        # 128 markings, each of them with many enabled steps.
        steps = [step("go", TASK, [0], [2, 3, 4, 5, 6, 7])]
        steps += [step("abcdef"[at], CHOICE, [2 + at], [1]) for at in range(6)]
        self.assertIs(has_circle((8, tuple(steps))), False)
        self.assertIs(has_circle((8, tuple(steps + [step("z", CHOICE, [2, 3, 4], [4])]))), False)
        self.assertIs(has_circle((8, tuple(steps + [step("z", CHOICE, [7], [7])]))), True)

    def test_lists_and_names(self):
        for net in STRAIGHT + ROUNDS + UNSOUND:
            self.assertIs(has_circle(net=as_lists(net)), self.unchanged(has_circle, net))
            self.assertIs(has_circle(mixed(net)), has_circle(net))

    def test_wrong_arguments(self):
        for value in NO_NETS:
            self.refused(0, has_circle, value)


class SpanTest(Checks):

    def check(self, net, times, told):
        """The span, and that both its ends are met by the runs of shortest and longest."""
        self.assertEqual(span(net, times), told)
        low = [pair[0] for pair in times]
        high = [pair[1] for pair in times]
        for function, durations, finishing in ((shortest, low, told[0]), (longest, high, told[1])):
            run = function(net, times)
            self.assertEqual(reference.lead(net, run), (1,))
            self.assertEqual(reference_runs.finishing(net, durations, run), finishing)
            self.assertTrue(is_plain(run))
            self.assertEqual(function(net, times), run)

    def test_one_step(self):
        self.check(SHORT, ((3, 8),), (3, 8))
        self.check(SHORT, ((0, 0),), (0, 0))
        self.check(SHORT, ((1000, 1000),), (1000, 1000))

    def test_rows(self):
        self.check(ROW, ((1, 2), (10, 20), (0, 5), (100, 100), (0, 1000)), (111, 1127))
        self.assertEqual(shortest(ROW, times_of(ROW, 0, 9)), ("a", "b", "c", "d", "e"))
        self.assertEqual(longest(ROW, times_of(ROW, 0, 9)), ("a", "b", "c", "d", "e"))

    def test_choices(self):
        # The steps are "long", "short", "rest", "last".
        self.check(CHOICES, ((1, 5), (4, 20), (1, 5), (1, 5)), (3, 20))
        self.assertEqual(shortest(CHOICES, ((1, 5), (4, 20), (1, 5), (1, 5))), ("long", "rest", "last"))
        self.assertEqual(longest(CHOICES, ((1, 5), (4, 20), (1, 5), (1, 5))), ("short",))
        self.check(CHOICES, ((1, 5), (2, 9), (1, 5), (1, 5)), (2, 15))
        self.assertEqual(shortest(CHOICES, ((1, 5), (2, 9), (1, 5), (1, 5))), ("short",))
        self.assertEqual(longest(CHOICES, ((1, 5), (2, 9), (1, 5), (1, 5))), ("long", "rest", "last"))

    def test_a_step_begins_at_the_last_of_its_tokens(self):
        # The steps are "split", "right", "left", "join".
        self.check(SIDES, ((1, 1), (10, 10), (3, 3), (100, 100)), (111, 111))
        self.check(SIDES, ((1, 1), (3, 3), (10, 10), (100, 100)), (111, 111))
        self.check(SIDES, ((1, 2), (3, 30), (10, 20), (0, 7)), (11, 39))
        self.check(SIDES, ((0, 0), (0, 0), (0, 0), (0, 0)), (0, 0))
        self.check(SIDES, ((0, 0), (0, 1000), (0, 999), (0, 0)), (0, 1000))

    def test_tokens_that_stand_for_long(self):
        # The token on 3 waits while those of the other part pass three steps.
        net = (6, (step("a", TASK, [0], [2, 3]), step("b", TASK, [2], [4]), step("c", TASK, [4], [5]),
                   step("d", TASK, [3, 5], [1])))
        self.check(net, ((1, 1), (2, 4), (8, 16), (32, 32)), (43, 53))
        self.check(net, ((0, 0), (0, 0), (0, 0), (32, 32)), (32, 32))

    def test_steps_that_give_tokens_back(self):
        # "c" gives the token on 7 back at its end: "b" begins behind it, or has it first without "c".
        for times in (((1, 2),) * 10, tuple((at, 3 * at) for at in range(10)), tuple((9 - at, 20) for at in range(10)),
                      tuple((2 ** at % 1000, 2 ** at % 1000) for at in range(10))):
            self.check(SHARED, times, reference_runs.span_of_ends(SHARED, times))
        times = ((0, 0), (0, 0), (5, 5), (0, 0), (0, 0), (0, 0), (0, 0), (0, 0), (0, 0), (0, 0))
        self.check(SHARED, times, (0, 5))

    def test_nets_of_all_these(self):
        times = ((1, 1), (4, 4), (1, 9), (1, 9), (2, 8), (6, 6), (0, 3), (0, 3), (1, 1))
        self.check(MIXED, times, (3, 25))
        self.check(MIXED, times, reference_runs.span_of_ends(MIXED, times))

    def test_low_equal_to_high(self):
        for net in STRAIGHT:
            for time in (0, 1, 7, 1000):
                least, greatest = span(net, times_of(net, time, time))
                lengths = [reference_runs.finishing(net, [1] * len(net[1]), run)
                           for run in reference_runs.runs_to_end(net)]
                self.check(net, times_of(net, time, time), (time * min(lengths), time * max(lengths)))
                self.assertTrue(least <= greatest)

    def test_bounds(self):
        self.check(LONG, times_of(LONG, 0, 1000), (0, 10000))
        self.check(LONG, times_of(LONG, 1000, 1000), (10000, 10000))
        self.check(ROW, times_of(ROW, 0, 1000), (0, 5000))

    def test_all_runs_and_all_times(self):
        for net, times in (
                (ROW, ((0, 1), (2, 3), (0, 2), (1, 1), (3, 5))), (CHOICES, ((0, 2), (1, 7), (1, 3), (0, 1))),
                (SIDES, ((0, 2), (1, 4), (2, 3), (0, 2))), (HALF, ((0, 2), (1, 4), (2, 3), (0, 2))),
                (SHORT, ((0, 9),))):
            self.check(net, times, reference_runs.span(net, times))

    def test_lists_and_names(self):
        times = ((1, 5), (4, 20), (1, 5), (1, 5))
        for function in (span, shortest, longest):
            told = self.unchanged(function, CHOICES, times)
            self.assertTrue(is_plain(told))
            self.assertEqual(function(times=as_lists(times), net=as_lists(CHOICES)), told)
            self.assertEqual(function(mixed(CHOICES), mixed(times)), told)
            self.assertEqual(function(CHOICES, [list(pair) for pair in times]), told)
            self.assertEqual(function(CHOICES, tuple([list(pair) for pair in times])), told)

    def test_wrong_nets(self):
        for function in (span, shortest, longest):
            for value in NO_NETS:
                for times in ((), ((0, 1),) * 3, None, 5):
                    self.refused(0, function, value, times)
            for net in UNSOUND + ROUNDS + (EMPTY,):
                for times in (times_of(net, 0, 1), (), None, ((1, 0),)):
                    self.refused(0, function, net, times)
                    self.refused(0, function, as_lists(net), times)

    def test_times_of_another_length(self):
        for function in (span, shortest, longest):
            for net in STRAIGHT:
                right = times_of(net, 0, 1)
                for times in ((), right[1:], right + ((0, 1),), right * 2, [right], (right,) * 2):
                    self.refused(1, function, net, times)

    def test_no_times(self):
        pairs = NO_SEQUENCES + ((), (1,), (1, 2, 3), (1, 0), (1000, 999), (-1, 0), (-1, -1), (0, 1001), (1001, 1001),
                                ((0, 1), 2), (0, (1,)), [0], [5, 4], (0, 10 ** 30), (-10 ** 30, 0))
        pairs += tuple((0, value) for value in NO_INTEGERS) + tuple((value, 1000) for value in NO_INTEGERS)
        pairs += ((True, True), (False, 1), (0, True))
        for function in (span, shortest, longest):
            for value in NO_SEQUENCES:
                self.refused(1, function, SIDES, value)
            for pair in pairs:
                self.refused(1, function, SHORT, (pair,))
                for at in range(4):
                    times = [(0, 1)] * 4
                    times[at] = pair
                    self.refused(1, function, SIDES, times)
                    self.refused(1, function, SIDES, tuple(times))


class ChanceTest(Checks):

    def test_has_circle(self):
        many = [0, 0]
        for net in nets(1, 500):
            right = reference_runs.has_circle(net)
            self.assertIs(has_circle(net), right, net)
            many[right] += 1
        self.assertGreater(min(many), 50, many)

    def test_spans(self):
        chance = random.Random(2)
        many, wide = 0, 0
        for net in nets(2, 1500):
            if unsound(net) is not None or reference_runs.has_circle(net):
                continue
            times = self.some_times(chance, net)
            small = len(net[1]) < 5
            right = reference_runs.span(net, times) if small else reference_runs.span_of_ends(net, times)
            self.assertEqual(span(net, times), right, (net, times))
            self.check_runs(net, times, right)
            many += 1
            wide += len(net[1]) > 5
        self.assertGreater(many, 200)
        self.assertGreater(wide, 20)

    def some_times(self, chance, net):
        lows = [chance.randrange(6) for _ in net[1]]
        return tuple((low, low + chance.randrange(4)) for low in lows)

    def check_runs(self, net, times, right):
        run = shortest(net, times)
        self.assertEqual(reference_runs.finishing(net, [low for low, _ in times], run), right[0])
        run = longest(net, times)
        self.assertEqual(reference_runs.finishing(net, [high for _, high in times], run), right[1])

    def test_each_run_is_finished_within_the_span(self):
        chance = random.Random(3)
        many = 0
        for net in nets(3, 700):
            if unsound(net) is not None or reference_runs.has_circle(net):
                continue
            times = tuple(sorted((chance.randrange(1001), chance.randrange(1001))) for _ in net[1])
            least, greatest = span(net, times)
            for run in reference_runs.runs_to_end(net):
                durations = [chance.randrange(low, high + 1) for low, high in times]
                self.assertTrue(least <= reference_runs.finishing(net, durations, run) <= greatest)
                many += 1
        self.assertGreater(many, 300)


if __name__ == "__main__":
    unittest.main()
