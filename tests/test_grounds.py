"""Points [38] and [39]: grounds and grounds_hold, and promise [2]."""

import copy
import unittest

from samples import (
    CHOICE, DOUBLES, LEAVES, LETTER, NEVER, NO_NETS, NO_SEQUENCES, PLAIN, ROUND, SIDES, SOUND, STICKS,
    TASK, UNSOUND, as_lists, is_plain, mixed, step,
)

from wholeflow.errors import BadGrounds, BadValue
from wholeflow.sound import grounds, grounds_hold

MOST = 10 ** 6

LETTER_GROUNDS = (
    (((0,), 0, 2), ((1,), 2, 0), ((2,), 1, 1)), ("write", "check", "again"),
)
SIDES_GROUNDS = (
    (((0,), 0, 4), ((1,), 4, 0), ((2, 3), 1, 3), ((2, 5), 2, 2), ((3, 4), 2, 2), ((4, 5), 3, 1)),
    ("split", "right", "left", "join"),
)


class GroundsTest(unittest.TestCase):

    def test_letter(self):
        self.assertEqual(grounds(LETTER), LETTER_GROUNDS)

    def test_sides(self):
        self.assertEqual(grounds(SIDES), SIDES_GROUNDS)

    def test_depth_is_the_fewest_steps(self):
        net = (4, (step("a", CHOICE, [0], [2]), step("b", CHOICE, [2], [3]), step("c", CHOICE, [0], [3]),
                   step("d", CHOICE, [3], [1]), step("e", CHOICE, [3], [2])))
        self.assertEqual(grounds(net)[0], (((0,), 0, 2), ((1,), 2, 0), ((2,), 1, 2), ((3,), 1, 1)))

    def test_none_of_unsound_nets(self):
        for net in UNSOUND + ((2, ()),):
            self.assertIsNone(grounds(net))

    def test_lists_and_plain_tuples(self):
        for net in SOUND:
            self.assertEqual(grounds(as_lists(net)), grounds(net))
            self.assertTrue(is_plain(grounds(mixed(net))))

    def test_wrong_arguments(self):
        for value in NO_NETS:
            with self.assertRaises(BadValue) as caught:
                grounds(value)
            self.assertEqual(caught.exception.at, 0)

    def test_argument_stays(self):
        net = as_lists(ROUND)
        before = copy.deepcopy(net)
        grounds(net=net)
        self.assertEqual(net, before)


class CaseOfGrounds(unittest.TestCase):

    def fails(self, net, value, at):
        with self.assertRaises(BadGrounds) as caught:
            grounds_hold(net, value)
        self.assertEqual(caught.exception.at, at, value)

    def with_triple(self, at, triple):
        triples, names = LETTER_GROUNDS
        return triples[:at] + (triple,) + triples[at + 1:], names


class HoldTest(CaseOfGrounds):

    def test_what_grounds_returns(self):
        for net in SOUND:
            value = grounds(net)
            self.assertIs(grounds_hold(net, value), True)
            self.assertIs(grounds_hold(as_lists(net), as_lists(value)), True)
            self.assertIs(grounds_hold(mixed(net), mixed(value)), True)
            self.assertIs(grounds_hold(value=value, net=net), True)

    def test_other_depths_and_ranks(self):
        names = LETTER_GROUNDS[1]
        for depths, ranks in (((0, 9, 3), (7, 0, 5)), ((0, MOST, 1), (MOST, 0, 1)),
                              ((0, MOST, MOST - 1), (MOST, 0, MOST - 1))):
            triples = tuple(zip(((0,), (1,), (2,)), depths, ranks))
            self.assertIs(grounds_hold(LETTER, (triples, names)), True)

    def test_wrong_nets(self):
        for value in NO_NETS:
            for told in (LETTER_GROUNDS, None):
                with self.assertRaises(BadValue) as caught:
                    grounds_hold(value, told)
                self.assertEqual(caught.exception.at, 0)

    def test_arguments_stay(self):
        net, value = as_lists(LETTER), as_lists(LETTER_GROUNDS)
        before = copy.deepcopy((net, value))
        grounds_hold(net, value)
        self.assertEqual((net, value), before)
        value[0][1][2] = 5
        before = copy.deepcopy((net, value))
        self.fails(net, value, 1)
        self.assertEqual((net, value), before)


class NoPairTest(CaseOfGrounds):

    def test_no_pair_of_sequences(self):
        triples, names = LETTER_GROUNDS
        for value in NO_SEQUENCES + ((), [], (triples,), (triples, names, ()), (triples, None), (triples, "ab"),
                                     (triples, True), (None, names), ("", names), (0, names)):
            self.fails(LETTER, value, 0)

    def test_no_triples(self):
        self.fails(LETTER, ((), ()), 0)
        self.fails(LETTER, ((), LETTER_GROUNDS[1]), 0)
        self.fails((2, ()), ((), ()), 0)


class FormOfTriplesTest(CaseOfGrounds):

    def test_no_triple(self):
        for at in range(3):
            for triple in NO_SEQUENCES + ((), ((0,), 1), ((0,), 1, 1, 1), ((), ())):
                self.fails(LETTER, self.with_triple(at, triple), at)

    def test_no_marking(self):
        for at in range(3):
            for marking in NO_SEQUENCES + ((3,), (-1,), (1, 0), (2, 2), (True,), (False,), ("0",), (None,)):
                self.fails(LETTER, self.with_triple(at, (marking, 1, 1)), at)

    def test_no_depth_or_rank(self):
        for at, (marking, depth, rank) in enumerate(LETTER_GROUNDS[0]):
            for number in (-1, MOST + 1, 10 ** 30, True, False, None, "1", (), (1,)):
                self.fails(LETTER, self.with_triple(at, (marking, number, rank)), at)
                self.fails(LETTER, self.with_triple(at, (marking, depth, number)), at)

    def test_markings_that_do_not_ascend(self):
        first, second, third = LETTER_GROUNDS[0]
        names = LETTER_GROUNDS[1]
        self.fails(LETTER, ((second, first, third), names), 1)
        self.fails(LETTER, ((first, third, second), names), 2)
        self.fails(LETTER, ((first, second, second, third), names), 2)
        self.fails(LETTER, ((first, first, second, third), names), 1)
        self.fails(LETTER, ((first, second, third, third), names), 3)
        self.fails(LETTER, ((first, second, third, ((2,), 2, 2)), names), 3)

    def test_the_form_of_all_is_ahead_of_what_they_say(self):
        triples, names = LETTER_GROUNDS
        wrong = (((0,), 5, 0), ((1,), 0, 5), ((2,), 0, 0))
        self.fails(LETTER, (wrong, names), 0)
        self.fails(LETTER, (wrong + (((2,), 1, 1),), names), 3)
        self.fails(LETTER, (wrong[:2] + (None,), names), 2)
        self.fails(LETTER, (wrong[:2] + (None,), None), 0)
        for triple in (((3,), 1, 1), ((0,), 1, 1), ((2,), -1, 1), ((2,), 1, -1), ((2,), MOST + 1, 1),
                       ((2,), 1, MOST + 1), ((2,), True, 1), ((2,), 1, False), ((2,), 1, 1, 1)):
            self.fails(LETTER, (wrong[:2] + (triple,), names), 2)

    def test_the_form_is_ahead_of_the_names(self):
        self.fails(LETTER, (LETTER_GROUNDS[0] + (None,), ()), 3)


class MeaningOfTriplesTest(CaseOfGrounds):

    def test_depth_of_the_start_and_others(self):
        self.fails(LETTER, self.with_triple(0, ((0,), 1, 2)), 0)
        self.fails(LETTER, self.with_triple(1, ((1,), 0, 0)), 1)
        self.fails(LETTER, self.with_triple(2, ((2,), 0, 1)), 2)

    def test_rank_of_the_end_and_others(self):
        self.fails(LETTER, self.with_triple(1, ((1,), 2, 1)), 1)
        self.fails(LETTER, self.with_triple(0, ((0,), 0, 0)), 0)
        self.fails(LETTER, self.with_triple(2, ((2,), 1, 0)), 2)

    def test_depth_needs_a_lesser_one(self):
        self.fails(LETTER, self.with_triple(1, ((1,), 1, 0)), 1)
        self.fails(LETTER, self.with_triple(2, ((2,), 2, 1)), 1)
        self.fails(LETTER, self.with_triple(2, ((2,), 3, 1)), 1)

    def test_rank_needs_a_lesser_one(self):
        self.fails(LETTER, self.with_triple(0, ((0,), 0, 1)), 0)
        self.fails(LETTER, self.with_triple(2, ((2,), 1, 2)), 0)
        self.fails(LETTER, self.with_triple(2, ((2,), 1, 3)), 0)

    def test_a_marking_to_which_no_run_comes(self):
        triples, names = SIDES_GROUNDS
        self.fails(SIDES, ((((), 1, 1),) + triples, names), 0)
        self.fails(SIDES, (triples[:3] + (((2, 4), 1, 1),) + triples[3:], names), 3)
        self.fails(SIDES, (triples + (((5,), 9, 9),), names), 6)

    def test_the_end_beside_others(self):
        net = (3, (step("a", CHOICE, [0], [1]), step("b", CHOICE, [0], [1, 2])))
        value = (((0,), 0, 1), ((1,), 1, 0), ((1, 2), 1, 1)), ("a", "b")
        self.fails(net, value, 2)

    def test_the_first_one_with_the_end_beside_others(self):
        net = (4, (step("a", CHOICE, [0], [1]), step("b", CHOICE, [0], [1, 2]), step("c", CHOICE, [2], [3])))
        value = (((0,), 0, 1), ((1,), 1, 0), ((1, 2), 1, 2), ((1, 3), 2, 1)), ("a", "b", "c")
        self.fails(net, value, 2)

    def test_a_way_that_leads_to_none_of_them(self):
        triples, names = SIDES_GROUNDS
        for lost, at in ((0, 1), (2, 0), (3, 2), (4, 2), (5, 1)):
            self.fails(SIDES, (triples[:lost] + triples[lost + 1:], names), at)
        self.fails(SIDES, (triples[:1], names), 0)

    def test_an_enabled_step_that_doubles(self):
        net = (4, (step("a", CHOICE, [0], [2, 3]), step("b", CHOICE, [2, 3], [1]), step("c", CHOICE, [2], [3])))
        value = (((0,), 0, 2), ((1,), 2, 0), ((2, 3), 1, 1)), ("a", "b", "c")
        self.fails(net, value, 2)

    def test_a_step_that_doubles_leads_to_nothing(self):
        net = (4, (step("a", CHOICE, [0], [2, 3]), step("b", CHOICE, [2], [3]), step("c", CHOICE, [3], [1])))
        value = (((0,), 0, 3), ((1,), 3, 0), ((2, 3), 1, 2), ((3,), 2, 1)), ("a", "b", "c")
        self.fails(net, value, 2)
        value = (((1,), 3, 0), ((2, 3), 1, 2), ((3,), 2, 1)), ("a", "b", "c")
        self.fails(net, value, 1)

    def test_the_first_of_several(self):
        first, names = LETTER_GROUNDS[0][0], LETTER_GROUNDS[1]
        self.fails(LETTER, ((first, ((1,), 2, 5), ((2,), 0, 1)), names), 1)
        self.fails(LETTER, ((((0,), 3, 2), ((1,), 2, 5), ((2,), 0, 1)), names), 0)

    def test_meaning_is_ahead_of_the_names(self):
        triples = (LETTER_GROUNDS[0][0], ((1,), 2, 5), LETTER_GROUNDS[0][2])
        self.fails(LETTER, (triples, ()), 1)

    def test_markings_of_unsound_nets(self):
        self.fails(DOUBLES, ((((0,), 0, 1), ((2, 3), 1, 1)), ("c", "b", "aa")), 0)
        self.fails(LEAVES, ((((0,), 0, 1), ((2, 3), 1, 1)), ("a", "b", "c")), 0)
        self.fails(STICKS, ((((0,), 0, 2), ((1,), 2, 0), ((2,), 1, 9), ((3,), 1, 1)), ("trap", "ok", "on")), 2)


class NamesTest(CaseOfGrounds):

    def test_other_names(self):
        triples, names = LETTER_GROUNDS
        for value in ((), names[:2], names + ("write",), names[::-1], ("write", "check", None), (True,),
                      ("write", "check", ("again",)), ((), (), ()), [names]):
            self.fails(LETTER, (triples, value), 3)
        self.assertIs(grounds_hold(LETTER, (triples, list(names))), True)

    def test_steps_that_are_never_enabled(self):
        value = (((0,), 0, 1), ((1,), 1, 0)), ("one", "two", "three")
        self.fails(NEVER, value, 2)

    def test_ends_of_the_places(self):
        net = (2, (step("a", PLAIN, [0], [1]),))
        self.assertIs(grounds_hold(net, ((((0,), 0, 1), ((1,), 1, 0)), ("a",))), True)
        self.fails(net, ((((0,), 0, 1), ((1,), 1, 0)), ()), 2)
        self.fails(net, ((((0,), 0, 1), ((1,), 1, 0), ((2,), 1, 1)), ("a",)), 2)
        eight = (8, (step("a", TASK, [0], [7]), step("b", TASK, [7], [1])))
        self.assertIs(grounds_hold(eight, grounds(eight)), True)


if __name__ == "__main__":
    unittest.main()
