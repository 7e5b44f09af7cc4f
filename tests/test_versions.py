"""Points [41] to [43], and promise [4]: runs of nets, and what two nets do not share."""

import random
import unittest

import reference
import reference_runs
from checks import Checks
from makers import nets, spoiled
from samples import (
    CHOICE, CHOICES, DOUBLES, LEAVES, LETTER, NEVER, NO_NETS, NO_SEQUENCES, PLAIN, ROUND, ROW, SIDES, SIGNAL,
    SOUND, STICKS, TASK, UNSOUND, WAIT, as_lists, is_plain, mixed, step,
)

from wholeflow.nets import is_net
from wholeflow.versions import fits, marking_after, unlike

EMPTY = (2, ())
# No step of it is enabled at the start.
IDLE = (4, (step("a", CHOICE, [2], [1]), step("b", TASK, [0, 3], [1])))

NO_WORDS = NO_SEQUENCES + (
    (None,), (True,), (0,), ("",), ("A",), ("abcdefghi",), ("a b",), ("a1",), (("a",),), ([],), ("write", None),
    ("none", 1), ["write", "check", "x" * 9], ("none", "none", ("a",)), ("a" * 20000,), "write", ("write\n",),
)


def renamed(net, places):
    """The net with other numbers for its places, the start's and the end's as they are."""
    steps = [(name, kind, tuple(sorted(places[p] for p in ins)), tuple(sorted(places[p] for p in outs)))
             for name, kind, ins, outs in net[1]]
    return net[0], tuple(steps)


def turned(net):
    """The net with its inner places numbered from behind, and its steps in another sequence."""
    inner = list(range(2, net[0]))
    places, steps = renamed(net, dict(zip([0, 1] + inner, [0, 1] + inner[::-1])))
    return places, steps[::-1]


class FitsTest(Checks):

    def test_runs(self):
        self.assertIsNone(fits(LETTER, ("write", "again", "write", "check")))
        self.assertIsNone(fits(ROW, ("a", "b", "c", "d", "e")))
        self.assertIsNone(fits(SIDES, ("split", "right", "left", "join")))
        self.assertIsNone(fits(ROUND, ("split", "y", "x", "join", "back", "split")))
        self.assertIsNone(fits(LETTER, ("write", "again") * 500 + ("write",)))

    def test_the_empty_sequence(self):
        for net in SOUND + UNSOUND + (EMPTY, IDLE):
            self.assertIsNone(fits(net, ()))
            self.assertIsNone(fits(net, []))

    def test_none_from_the_first_name(self):
        self.assertEqual(fits(LETTER, ("check",)), 0)
        self.assertEqual(fits(LETTER, ("none", "write")), 0)
        self.assertEqual(fits(EMPTY, ("a",)), 0)
        self.assertEqual(fits(IDLE, ("a", "b")), 0)
        self.assertEqual(fits(IDLE, ("b",)), 0)

    def test_none_from_a_middle_name(self):
        self.assertEqual(fits(LETTER, ("write", "write", "check")), 1)
        self.assertEqual(fits(LETTER, ("write", "again", "none", "write")), 2)
        self.assertEqual(fits(SIDES, ("split", "right", "join", "left")), 2)
        self.assertEqual(fits(SIDES, ("split", "right", "right", "left")), 2)

    def test_none_from_the_last_name(self):
        self.assertEqual(fits(LETTER, ("write", "check", "check")), 2)
        self.assertEqual(fits(ROW, ("a", "b", "c", "d", "e", "a")), 5)
        self.assertEqual(fits(LETTER, ("write", "again") * 500 + ("check",)), 1000)

    def test_doubling_is_no_run(self):
        self.assertEqual(fits(DOUBLES, ("aa", "b", "c")), 1)
        self.assertEqual(fits(DOUBLES, ("aa", "c", "b", "c")), 3)
        self.assertIsNone(fits(DOUBLES, ("aa", "c", "b")))

    def test_runs_that_leave_or_stick(self):
        self.assertIsNone(fits(LEAVES, ("a", "b")))
        self.assertIsNone(fits(STICKS, ("trap",)))
        self.assertEqual(fits(STICKS, ("trap", "on")), 1)
        self.assertEqual(fits(NEVER, ("one", "three")), 1)

    def test_lists_and_names(self):
        self.assertEqual(fits(names=["write", "write"], net=as_lists(LETTER)), 1)
        for net in SOUND:
            self.assertEqual(self.unchanged(fits, net, ("split", "x", "no")), fits(mixed(net), ["split", "x", "no"]))

    def test_wrong_arguments_in_their_order(self):
        for value in NO_NETS:
            for names in ((), ("write",), None, (1,)):
                self.refused(0, fits, value, names)
        for names in NO_WORDS:
            for net in (LETTER, EMPTY, as_lists(SIDES)):
                self.refused(1, fits, net, names)


class MarkingAfterTest(Checks):

    def test_runs(self):
        self.assertEqual(marking_after(LETTER, ("write", "again", "write")), (2,))
        self.assertEqual(marking_after(LETTER, ("write", "again")), (0,))
        self.assertEqual(marking_after(SIDES, ("split", "right")), (2, 5))
        self.assertEqual(marking_after(SIDES, ("split", "left")), (3, 4))
        self.assertEqual(marking_after(ROW, ("a", "b", "c", "d", "e")), (1,))
        self.assertEqual(marking_after(LEAVES, ("a", "b")), (1, 3))
        self.assertEqual(marking_after(DOUBLES, ("aa", "c", "b")), (1, 3))

    def test_the_empty_sequence(self):
        for net in SOUND + UNSOUND + (EMPTY, IDLE):
            self.assertEqual(marking_after(net, ()), (0,))

    def test_lists_and_names(self):
        told = marking_after(names=["split"], net=as_lists(SIDES))
        self.assertEqual(told, (2, 3))
        self.assertTrue(is_plain(told))
        self.assertEqual(self.unchanged(marking_after, SIDES, ("split", "left")), (3, 4))
        self.assertEqual(marking_after(mixed(SIDES), ["split"]), (2, 3))

    def test_wrong_arguments_in_their_order(self):
        for value in NO_NETS:
            for names in ((), ("write",), None, (1,)):
                self.refused(0, marking_after, value, names)
        for names in NO_WORDS:
            for net in (LETTER, EMPTY, as_lists(SIDES)):
                self.refused(1, marking_after, net, names)

    def test_words_that_are_no_run(self):
        for names in (("check",), ("none",), ("write", "write"), ("write", "check", "check"), ["write", "none"]):
            self.refused(1, marking_after, LETTER, names)
        self.refused(1, marking_after, DOUBLES, ("aa", "b"))
        self.refused(1, marking_after, EMPTY, ("a",))
        self.refused(1, marking_after, IDLE, ("b",))


class UnlikeTest(Checks):

    def differ(self, one, other, names, which):
        self.assertEqual(unlike(one, other), (names, which))
        self.assertEqual(unlike(other, one), (names, 1 - which))
        self.assertIsNone(fits((one, other)[which], names))
        self.assertIsNotNone(fits((other, one)[which], names))

    def test_a_net_and_itself(self):
        for net in SOUND + UNSOUND + (EMPTY, IDLE):
            self.assertIsNone(unlike(net, net))
            self.assertIsNone(unlike(as_lists(net), net))

    def test_renamed_places_and_another_sequence(self):
        for net in SOUND + UNSOUND + (IDLE,):
            self.assertIsNone(unlike(net, turned(net)))

    def test_kinds_and_places_do_not_count(self):
        kinds = (PLAIN, CHOICE, SIGNAL, WAIT, TASK)
        for kind in kinds:
            row = (8, tuple((name, kind, ins, outs) for name, _, ins, outs in ROW[1]))
            self.assertIsNone(unlike(row, ROW))

    def test_steps_that_no_run_takes_do_not_count(self):
        self.assertIsNone(unlike(EMPTY, IDLE))
        self.assertIsNone(unlike(NEVER, (2, NEVER[1][:1])))
        # A step that doubles whenever it is enabled is in no run either.
        doubling = (3, (step("a", CHOICE, [0], [0, 2]), step("b", CHOICE, [0, 2], [0, 1, 2])))
        self.differ(doubling, (2, (step("a", CHOICE, [0], [0]),)), ("a", "a"), 1)
        self.differ(doubling, EMPTY, ("a",), 0)

    def test_without_steps(self):
        self.assertIsNone(unlike(EMPTY, (8, ())))
        self.differ(EMPTY, LETTER, ("write",), 1)
        self.differ(ROW, EMPTY, ("a",), 0)

    def test_behind_one_step_and_several(self):
        self.differ(LETTER, (3, LETTER[1][:2]), ("write", "again"), 0)
        self.differ(ROW, (6, ROW[1][:4]), ("a", "b", "c", "d", "e"), 0)
        self.differ(ROUND, (7, ROUND[1][:5]), ("split", "x", "y", "join", "out"), 0)

    def test_ins_alone(self):
        self.differ((4, (step("b", CHOICE, [0], [1]),)), (4, (step("b", CHOICE, [0, 2], [1]),)), ("b",), 0)
        a, c = step("a", CHOICE, [0], [2, 3]), step("c", CHOICE, [3], [3])
        one = (4, (a, step("b", CHOICE, [2], [1]), c))
        other = (4, (a, step("b", CHOICE, [2, 3], [1]), c))
        # Both take "b" behind "a", but only one of them leaves the token that "c" needs.
        self.differ(one, other, ("a", "b", "c"), 0)
        self.assertIsNone(unlike((4, one[1][:2]), (4, other[1][:2])))

    def test_outs_alone(self):
        self.differ((3, (step("a", CHOICE, [0], [0]),)), (3, (step("a", CHOICE, [0], [2]),)), ("a", "a"), 0)

    def test_doubling_alone(self):
        self.differ((3, (step("a", CHOICE, [0], [0, 2]),)), (3, (step("a", CHOICE, [0], [0]),)), ("a", "a"), 1)

    def test_the_first_of_several(self):
        one = (3, (step("c", CHOICE, [0], [2]), step("b", CHOICE, [0], [1]), step("d", CHOICE, [0], [1])))
        self.differ(one, (2, (step("a", CHOICE, [0], [1]), step("b", CHOICE, [0], [1]))), ("a",), 1)
        self.differ(one, (2, one[1][1:]), ("c",), 0)
        self.differ(one, (2, one[1][1:2]), ("c",), 0)

    def test_the_first_name_is_ahead_of_the_last(self):
        ways = (step("b", CHOICE, [0], [2]), step("a", CHOICE, [0], [3]))
        one = (4, ways + (step("y", CHOICE, [2], [1]), step("z", CHOICE, [3], [1])))
        self.differ(one, (4, ways), ("a", "z"), 0)
        self.differ(one, (4, ways + one[1][2:3]), ("a", "z"), 0)
        self.differ(one, (4, ways + one[1][3:]), ("b", "y"), 0)

    def test_shorter_is_ahead_of_first(self):
        one = (5, (step("a", CHOICE, [0], [2]), step("b", CHOICE, [2], [3]), step("c", CHOICE, [3], [1]),
                   step("y", CHOICE, [0], [4]), step("z", CHOICE, [4], [1])))
        other = (5, one[1][:2] + one[1][3:4])
        self.differ(one, other, ("y", "z"), 0)

    def test_another_marking_for_each_round(self):
        # The circle of two steps and that of three differ from the sixth name on.
        def circle(names, many):
            places = [0, 2, 3, 4, 5, 6, 7][:many]
            return [step(name, CHOICE, [places[at]], [places[(at + 1) % many]]) for at, name in enumerate(names)]
        two = (8, tuple(circle("ab", 2)))
        three = (8, tuple(circle("abc", 3)))
        self.differ(two, three, ("a", "b", "a"), 0)

    def test_markings_met_twice(self):
        # Behind "a" the nets are where they were, but only by "b" they come to be unlike.
        loop = step("a", CHOICE, [0], [0])
        one = (3, (loop, step("b", CHOICE, [0], [2]), step("c", CHOICE, [2], [1])))
        other = (3, (loop, step("b", CHOICE, [0], [2])))
        self.differ(one, other, ("b", "c"), 0)

    def test_the_same_marking_of_one_beside_several_of_the_other(self):
        # `one` comes back to its start by "a" and "b", `other` only counts its rounds.
        one = (3, (step("a", CHOICE, [0], [2]), step("b", CHOICE, [2], [0])))
        other = (5, (step("a", CHOICE, [0], [2, 3]), step("b", CHOICE, [2], [0])))
        self.differ(one, other, ("a", "b", "a"), 0)

    def test_a_wrong_behind_a_whole_count(self):
        # Six places count in twos: one step is enabled at a time, and the last one behind 63 others.
        def counting(last):
            steps = [step("abcdef"[at], CHOICE, [0] + list(range(2, 2 + at)), [0, 2 + at]) for at in range(6)]
            return 8, tuple(steps + last)
        names = ()
        for name in "abcdef":
            names += (name,) + names
        end = [step("g", CHOICE, [0, 2, 3, 4, 5, 6, 7], [1])]
        self.differ(counting(end), counting([]), names + ("g",), 0)
        self.assertIsNone(unlike(counting(end), turned(counting(end))))

    def test_eight_places_and_ten_steps(self):
        def full(ins):
            steps = [step("start", TASK, [0], [2, 3, 4, 5, 6, 7])]
            steps += [step("uvwxyz"[at], CHOICE, [2 + at], [2 + at]) for at in range(6)]
            steps += [step("b", CHOICE, [2, 3], [4]), step("c", CHOICE, ins, [5, 7]), step("a", CHOICE, [7], [1])]
            return 8, tuple(steps)
        self.assertIsNone(unlike(full([6]), turned(full([6]))))
        # "c" doubles until "a" takes the token of the last place, and then only one keeps that of "y".
        self.differ(full([5, 6]), full([5]), ("start", "a", "c", "y"), 1)

    def test_lists_and_names(self):
        told = unlike(other=as_lists(SIDES), one=LETTER)
        self.assertEqual(told, (("split",), 1))
        self.assertTrue(is_plain(told))
        self.assertEqual(self.unchanged(unlike, ROW, CHOICES), (("a",), 0))
        self.assertEqual(unlike(mixed(ROW), mixed(CHOICES)), (("a",), 0))

    def test_wrong_arguments_in_their_order(self):
        for value in NO_NETS:
            for other in (LETTER, EMPTY, None, value):
                self.refused(0, unlike, value, other)
            self.refused(1, unlike, LETTER, value)
            self.refused(1, unlike, EMPTY, value)


class ChanceTest(Checks):

    def test_fits_and_marking_after(self):
        chance = random.Random(1)
        many = [0, 0]
        for net in nets(1, 300):
            words = reference_runs.names_of(net) + ("none",)
            for _ in range(10):
                names = self.walk(chance, net, words)
                right = reference_runs.fits(net, names)
                self.assertEqual(fits(net, names), right)
                many[right is None] += 1
                if right is None:
                    self.assertEqual(marking_after(net, names), reference.lead(net, names))
                else:
                    self.refused(1, marking_after, net, names)
        self.assertGreater(min(many), 300, many)

    def walk(self, chance, net, words):
        """Names of which most go on with a run."""
        names = ()
        for _ in range(chance.randrange(8)):
            right = [word for word in words if reference.lead(net, names + (word,)) is not None]
            names += (chance.choice(right if right and chance.random() < 0.85 else words),)
        return names

    def test_turned_nets_are_alike(self):
        for net in nets(2, 300):
            self.assertIsNone(unlike(net, turned(net)), net)

    def test_unlike_is_as_the_reference_tells(self):
        chance = random.Random(3)
        many = {}
        for net in nets(3, 500, most_steps=6):
            other = self.changed(chance, net)
            if not is_net(other):
                continue
            try:
                right = reference_runs.unlike(net, other, 7)
            except reference.TooLong:
                continue
            told = unlike(net, other)
            if right is None and told is not None:
                self.assertGreater(len(told[0]), 7)
            else:
                self.assertEqual(told, right, (net, other))
            key = None if right is None else len(right[0])
            many[key] = many.get(key, 0) + 1
        for key in (None, 1, 2, 3, 4):
            self.assertGreater(many[key], 5, many)

    def changed(self, chance, net):
        """A net of the same names with an in or an out more or less, or a step less, then turned."""
        places, steps = net
        changed = spoiled(chance, places, [(ins, outs) for _, _, ins, outs in steps])
        rows = [(name, CHOICE, tuple(sorted(ins)), tuple(sorted(outs)))
                for (name, _, _, _), (ins, outs) in zip(steps, changed)]
        if chance.randrange(4) == 0:
            del rows[chance.randrange(len(rows))]
        return turned((places, tuple(rows)))


if __name__ == "__main__":
    unittest.main()
