"""Points [52] and [53]: flows with their versions, and how queues are set."""

import unittest

from house_checks import NO_NUMBERS, NO_WORDS, HouseChecks, house_of
from samples import (
    CHOICE, DOUBLES, LEAVES, LETTER, NEVER, NO_NETS, ROUND, ROW, SIDES, SOUND, STICKS, as_lists, is_plain, mixed,
)

from wholeflow.errors import BadValue, NoFlow, NoRight, TooMany, Unsound
from wholeflow.houses import House

FLOWS = ("a", "b", "c", "d", "e", "f")


def numbers_beyond(least, most):
    return NO_NUMBERS + (least - 1, most + 1, 10 ** 30, -10 ** 30)


class PublishTest(HouseChecks):

    def test_versions_and_flows(self):
        house = House()
        self.assertEqual(self.taken(house, "publish", "root", "letter", LETTER), 1)
        self.assertEqual(self.taken(house, "publish", "root", "letter", ROW), 2)
        self.assertEqual(self.taken(house, "publish", "root", "form", SIDES), 1)
        self.assertEqual(self.taken(house, "publish", "root", "letter", LETTER), 3)
        self.assertEqual(house.flows(), (("form", 1), ("letter", 3)))
        told = [house.net("letter", number) for number in (1, 2, 3)] + [house.net("form", 1)]
        self.assertEqual(told, [LETTER, ROW, LETTER, SIDES])

    def test_lists(self):
        for net in SOUND:
            for value in (as_lists(net), mixed(net)):
                house = House()
                house.publish("root", "letter", value)
                self.assertEqual(house.net("letter", 1), net)
                self.assertTrue(is_plain(house.net("letter", 1)))
                self.assertTrue(is_plain(house.log()))
                self.assertEqual(house.log(), house_of(net).log())

    def test_later_changes_have_no_effect(self):
        net = as_lists(ROW)
        house = house_of(net)
        net[1][0][2].append(2)
        net[1][2][1][2][1].append(6)
        net[1].pop()
        self.assertEqual(house.net("letter", 1), ROW)
        self.assertEqual(house.log(), ((0, "publish", "root", "letter", ROW),))

    def test_arguments_by_name(self):
        house = House()
        self.assertEqual(house.publish(net=LETTER, flow="letter", who="root"), 1)
        self.assertEqual(house.net(version=1, flow="letter"), LETTER)

    def test_unsound_nets(self):
        house = House()
        for net, word in ((DOUBLES, "doubled"), (LEAVES, "left"), (STICKS, "stuck"), (NEVER, "never")):
            self.refused(house, Unsound, word, "publish", "root", "letter", net)
            self.refused(house, Unsound, word, "publish", "root", "letter", as_lists(net))
            self.refused(house, NoRight, "publish", "publish", "ann", "letter", net)
        self.refused(house, Unsound, "stuck", "publish", "root", "letter", (2, ()))
        self.assertEqual(house.flows(), ())

    def test_only_root(self):
        house = House()
        for act in ("start", "steer", "see", "work"):
            house.grant("root", "ann", act, "letter")
        self.refused(house, NoRight, "publish", "publish", "ann", "letter", LETTER)

    def test_six_flows_and_one_more(self):
        house = House()
        for flow in FLOWS:
            self.assertEqual(house.publish("root", flow, LETTER), 1)
        self.refused(house, TooMany, None, "publish", "root", "g", LETTER)
        self.refused(house, Unsound, "left", "publish", "root", "g", LEAVES)
        self.refused(house, NoRight, "publish", "publish", "ann", "g", LETTER)
        self.assertEqual(house.publish("root", "f", ROW), 2)
        self.assertEqual(house.flows(), tuple((flow, 2 if flow == "f" else 1) for flow in FLOWS))

    def test_nine_versions_and_one_more(self):
        house = House()
        for number in range(1, 10):
            self.assertEqual(house.publish("root", "letter", (LETTER, ROW)[number % 2]), number)
        self.refused(house, TooMany, None, "publish", "root", "letter", LETTER)
        self.refused(house, Unsound, "stuck", "publish", "root", "letter", STICKS)
        self.assertEqual(house.publish("root", "form", LETTER), 1)
        self.assertEqual(house.flows(), (("form", 1), ("letter", 9)))

    def test_six_flows_of_nine_versions(self):
        house = House()
        for number in range(1, 10):
            for flow in FLOWS:
                self.assertEqual(house.publish("root", flow, ROUND), number)
        for flow in FLOWS + ("g",):
            self.refused(house, TooMany, None, "publish", "root", flow, LETTER)
        self.assertEqual(house.net("f", 9), ROUND)

    def test_wrong_arguments_in_their_order(self):
        house = House()
        for value in NO_WORDS:
            self.refused(house, BadValue, 0, "publish", value, value, None)
            self.refused(house, BadValue, 1, "publish", "ann", value, None)
            self.refused(house, BadValue, 1, "publish", "root", value, LETTER)
        for value in NO_NETS:
            self.refused(house, BadValue, 2, "publish", "root", "letter", value)
            self.refused(house, BadValue, 2, "publish", "ann", "letter", value)


class NetTest(HouseChecks):

    def test_no_flow(self):
        house = house_of(LETTER)
        for value in NO_WORDS + ("form", "lette"):
            self.refused(house, NoFlow, value, "net", value, None)
            with self.assertRaises(NoFlow) as caught:
                house.net(value, 1)
            self.assertIs(caught.exception.flow, value)

    def test_no_version(self):
        house = house_of(LETTER, ROW)
        for value in numbers_beyond(1, 2):
            self.refused(house, BadValue, 1, "net", "letter", value)


class QueueTest(HouseChecks):

    def test_queues_that_were_set(self):
        house = House()
        self.assertIsNone(self.taken(house, "queue", "root", "pens", 5, 2, 30))
        self.assertIsNone(self.taken(house, "queue", "root", "bin", 0, 1, 1))
        self.assertEqual(house.queues(), (("bin", 0, 1, 1), ("pens", 5, 2, 30)))
        self.taken(house, "queue", "root", "pens", 1000, 10, 1000)
        self.assertEqual(house.queues(), (("bin", 0, 1, 1), ("pens", 1000, 10, 1000)))
        self.taken(house, "queue", "root", "ink", 0, 10, 1)
        self.assertEqual(house.queues(), (("bin", 0, 1, 1), ("ink", 0, 10, 1), ("pens", 1000, 10, 1000)))

    def test_arguments_by_name(self):
        house = House()
        house.queue(window=4, rate=3, aging=2, queue="pens", who="root")
        self.assertEqual(house.queues(), (("pens", 2, 3, 4),))

    def test_only_root(self):
        house = House()
        house.grant("root", "ann", "work", "letter")
        self.refused(house, NoRight, "queue", "queue", "ann", "pens", 0, 1, 1)

    def test_wrong_arguments_in_their_order(self):
        house = House()
        for value in NO_WORDS:
            self.refused(house, BadValue, 0, "queue", value, value, None, 0, 0)
            self.refused(house, BadValue, 1, "queue", "ann", value, -1, 0, 0)
        for value in numbers_beyond(0, 1000):
            self.refused(house, BadValue, 2, "queue", "ann", "pens", value, 0, 0)
            self.refused(house, BadValue, 2, "queue", "root", "pens", value, 1, 1)
        for value in numbers_beyond(1, 10):
            self.refused(house, BadValue, 3, "queue", "ann", "pens", 0, value, 0)
            self.refused(house, BadValue, 3, "queue", "root", "pens", 1000, value, 1)
        for value in numbers_beyond(1, 1000):
            self.refused(house, BadValue, 4, "queue", "ann", "pens", 0, 1, value)
            self.refused(house, BadValue, 4, "queue", "root", "pens", 0, 10, value)


class NetsInHousesTest(HouseChecks):

    def test_the_bounds_of_nets(self):
        house = House()
        eight = (8, tuple(("abcdefghij"[at], CHOICE, (0,), (1,)) for at in range(10)))
        self.refused(house, BadValue, 2, "publish", "root", "letter", (9, eight[1]))
        self.refused(house, BadValue, 2, "publish", "root", "letter", (8, eight[1] + (("k", CHOICE, (0,), (1,)),)))
        self.assertEqual(house.publish("root", "letter", eight), 1)


if __name__ == "__main__":
    unittest.main()
