"""Promises [17] to [19], and all of [50] to [68] for houses led on by chance: compared with reference_house.py."""

import copy
import random
import unittest

from house_checks import HouseChecks, outcome
from house_makers import FLOWS, PEOPLE, STATUSES, Caller
from reference_house import SlowHouse

from wholeflow.errors import BadRow
from wholeflow.houses import House, rebuild, revive

CALLS = 250


def answers(house):
    """What a house answers to all questions but those of what never changes."""
    return (house.now(), house.log(), house.rights(), house.flows(), house.queues(), house.instances(),
            [house.instance(number) for number in house.instances()], house.waits(), house.tasks())


def all_answers(house):
    """What a house answers to all questions."""
    listings = [house.listing(who, flow, status) for who in PEOPLE for flow in (None,) + FLOWS
                for status in (None,) + STATUSES]
    nets = [house.net(flow, version + 1) for flow, many in house.flows() for version in range(many)]
    return answers(house), listings, nets


def beginnings(number, many):
    """For each call of a house led on by chance: the house behind it, name and arguments."""
    caller, house = Caller(number), House()
    calls = caller.first_calls()
    for at in range(many):
        name, arguments = calls[at] if at < len(calls) else caller.call(house)
        yield house, name, arguments


class ReferenceTest(HouseChecks):

    def test_each_call_as_the_reference_tells(self):
        told = {}
        for number in range(140):
            house, slow = House(), SlowHouse()
            caller = Caller(number)
            calls = caller.first_calls()
            for at in range(CALLS):
                name, arguments = calls[at] if at < len(calls) else caller.call(slow)
                right = outcome(slow, name, arguments)
                passed = copy.deepcopy(arguments)
                self.assertEqual(outcome(house, name, arguments), right, (number, at, name, arguments))
                self.assertEqual(arguments, passed)
                self.assertEqual(answers(house), answers(slow), (number, at, name, arguments))
                key = name, right[0], right[1] if right[0] == "raised" else right[1] is None
                told[key] = told.get(key, 0) + 1
            self.assertEqual(all_answers(house), all_answers(slow))
            for row in house.tasks():
                told[row[6], row[5] == 0] = told.get((row[6], row[5] == 0), 0) + 1
            for number in house.instances():
                told[house.instance(number)[4]] = told.get(house.instance(number)[4], 0) + 1
        self.check_many(told)

    def check_many(self, told):
        """All sorts of what may happen happened."""
        for name in ("grant", "revoke", "queue", "done", "fail", "beat", "clock", "cancel", "choose", "signal", "move"):
            self.assertGreater(told[name, "returned", True], 50, name)
        for name in ("publish", "start", "claim"):
            self.assertGreater(told[name, "returned", False], 50, name)
        self.assertGreater(told["claim", "returned", True], 50)
        errors = {(key[0], key[2].__name__) for key in told if len(key) == 3 and key[1] == "raised"}
        for name in ("cancel", "choose", "signal", "move"):
            self.assertLessEqual({(name, word) for word in ("BadValue", "NoInstance", "NoRight")}, errors)
        self.assertLessEqual({("move", "NoMove"), ("start", "TooMany"), ("start", "NoRight"), ("start", "NoFlow"),
                              ("done", "Late"), ("fail", "Late"), ("beat", "Late"), ("publish", "NoRight")}, errors)
        for status in STATUSES:
            self.assertGreater(told[status], 20, status)
        for status in ("ready", "held", "resting"):
            self.assertGreater(told[status, False], 20, status)
        self.assertGreater(sum(told.get((status, True), 0) for status in ("ready", "held", "resting")), 20)


class RebuildTest(HouseChecks):

    def test_the_log_and_each_of_its_beginnings(self):
        for number in range(500, 506):
            views = {0: all_answers(House())}
            for house, name, arguments in beginnings(number, 120):
                outcome(house, name, arguments)
                views[len(house.log())] = all_answers(house)
            rows = house.log()
            self.assertEqual(sorted(views), list(range(len(rows) + 1)))
            for many, right in views.items():
                again = rebuild(rows[:many])
                self.assertEqual(all_answers(again), right)
                self.assertEqual(again == house, many == len(rows))

    def test_changed_rows(self):
        wrong, many = 0, 0
        for number in range(600, 612):
            for house, name, arguments in beginnings(number, 90):
                outcome(house, name, arguments)
            chance = random.Random(number)
            for _ in range(60):
                rows = self.changed(chance, list(house.log()))
                right = self.first_wrong(rows)
                many += 1
                wrong += right is not None
                if right is None:
                    self.assertEqual(rebuild(rows).log(), tuple(rows))
                else:
                    with self.assertRaises(BadRow) as caught:
                        rebuild(rows)
                    self.assertEqual(caught.exception.at, right, rows)
        self.assertGreater(wrong, 300)
        self.assertGreater(many - wrong, 60)

    def changed(self, chance, rows):
        """The rows with one left out, exchanged, put in, or changed at one place."""
        at, other = chance.randrange(len(rows)), chance.randrange(len(rows))
        way = chance.randrange(4)
        if way == 0:
            del rows[at]
        elif way == 1:
            rows[at], rows[other] = rows[other], rows[at]
        elif way == 2:
            rows.insert(at, rows[other])
        else:
            place, taken = chance.randrange(len(rows[at])), rows[other]
            rows[at] = rows[at][:place] + (taken[chance.randrange(len(taken))],) + rows[at][place + 1:]
        return rows

    def first_wrong(self, rows):
        """The first row that the reference does not take."""
        slow = SlowHouse()
        for at, (tick, name, *arguments) in enumerate(rows):
            if type(tick) is not int or tick != slow.now() or name not in COMMANDS or len(arguments) != COMMANDS[name]:
                return at
            told = outcome(slow, name, arguments)
            if told[0] == "raised" or name == "claim" and told[1] is None:
                return at
        return None


COMMANDS = {"grant": 4, "revoke": 4, "publish": 3, "queue": 5, "start": 3, "claim": 2, "done": 3, "fail": 3,
            "beat": 3, "clock": 1, "cancel": 2, "choose": 3, "signal": 3, "move": 3}


class KeptTest(HouseChecks):

    def test_copies_and_revived_ones_led_on_by_the_same_calls(self):
        for number in range(700, 720):
            others = []
            for house, name, arguments in beginnings(number, 160):
                if len(house.log()) in (5, 40, 70, 100) and len(others) < 12:
                    others += [house.copy(), revive(house.kept()), rebuild(house.log())]
                right = outcome(house, name, arguments)
                for other in others:
                    self.assertEqual(outcome(other, name, arguments), right)
                    self.assertTrue(other == house)
            self.assertGreater(len(others), 6)
            for other in others:
                self.assertEqual(all_answers(other), all_answers(house))
                self.assertEqual(other.kept(), house.kept())

    def test_copies_left_behind(self):
        for number in range(800, 810):
            behind = []
            for house, name, arguments in beginnings(number, 120):
                if len(behind) < 30:
                    behind.append((house.copy(), house.kept(), answers(house)))
                outcome(house, name, arguments)
            for other, value, right in behind:
                self.assertEqual(answers(other), right)
                self.assertEqual(answers(revive(value)), right)


if __name__ == "__main__":
    unittest.main()
