"""Promises [1] to [3] for many nets: compared with the slow words of reference.py."""

import random
import unittest

import reference
from makers import nets
from samples import as_lists

from wholeflow.errors import BadGrounds, BadValue, Doubled
from wholeflow.nets import after, enabled
from wholeflow.sound import finish, grounds, grounds_hold, shows, unsound

WORDS = ("doubled", "left", "stuck", "never")
# Numbers that a changed depth or rank becomes.
NUMBERS = (0, 1, 2, 3, 4, 5, 10 ** 6)


def random_names(chance, net, many):
    names = [step[0] for step in net[1]] + ["none"]
    return tuple(chance.choice(names) for _ in range(chance.randrange(many)))


def random_walk(chance, net, many):
    """The names of a run, or of what doubles, taken by chance."""
    marking, names = (0,), ()
    for _ in range(chance.randrange(many)):
        told = enabled(net, marking)
        if len(told) == 0:
            return names
        names += (chance.choice(told),)
        try:
            marking = after(net, marking, names[-1])
        except Doubled:
            return names
    return names


class StepsTest(unittest.TestCase):

    def test_enabled_and_after(self):
        chance = random.Random(1)
        for net in nets(1, 200):
            for _ in range(20):
                marking = tuple(place for place in range(net[0]) if chance.randrange(2))
                self.check(net, marking)

    def check(self, net, marking):
        takes = {step[0]: reference.take(step, marking) for step in net[1]}
        told = tuple(name for name in takes if takes[name] is not None)
        self.assertEqual(enabled(net, marking), told)
        for name, taken in takes.items():
            if taken is None:
                with self.assertRaises(BadValue):
                    after(net, marking, name)
            elif taken[1]:
                with self.assertRaises(Doubled) as caught:
                    after(net, marking, name)
                self.assertEqual(caught.exception.place, taken[1][0])
            else:
                self.assertEqual(after(net, marking, name), taken[0])


class SoundnessTest(unittest.TestCase):

    def test_unsound_is_as_the_reference_tells(self):
        told = {"doubled": 0, "left": 0, "stuck": 0, "never": 0, None: 0}
        for net in nets(2, 500, most_steps=6) + nets(3, 300, most_places=4, most_steps=6):
            try:
                right = reference.unsound(net)
            except reference.TooLong:
                continue
            self.assertEqual(unsound(net), right, net)
            told[None if right is None else right[0]] += 1
        # Nets of each kind are to be among them.
        for word in told:
            self.assertGreater(told[word], 10, told)

    def test_what_unsound_tells_is_shown(self):
        for net in nets(4, 500):
            wrong = unsound(net)
            if wrong is not None:
                self.assertIs(shows(net, wrong[0], wrong[1]), True, net)
                self.assertIsNone(grounds(net))
            else:
                self.assertIs(grounds_hold(net, grounds(net)), True, net)

    def test_shows_is_as_the_reference_tells(self):
        chance = random.Random(5)
        many = {word: 0 for word in WORDS}
        for net in nets(5, 300):
            for _ in range(10):
                names = chance.choice((random_names, random_walk))(chance, net, 7)
                for word in WORDS:
                    right = self.right(net, word, names)
                    self.assertIs(shows(net, word, names), right, (net, word, names))
                    many[word] += right
        for word in WORDS:
            self.assertGreater(many[word], 10, many)

    def right(self, net, word, names):
        if word == "doubled":
            return reference.doubling(net, names)
        if word == "left":
            return reference.leaving(net, names)
        if word == "stuck":
            return reference.sticking(net, names)
        told = [step[0] for step in net[1]]
        return len(names) == 1 and names[0] in told and reference.lost(net, names[0])


class GroundsTest(unittest.TestCase):

    def test_grounds_are_all_markings_with_the_least_numbers(self):
        many = 0
        for net in nets(6, 300, most_steps=7):
            value = grounds(net)
            if value is None:
                continue
            many += 1
            self.assertEqual(sorted(reference.closure(net)), [row[0] for row in value[0]])
            self.assertEqual(value[1], tuple(step[0] for step in net[1]))
            for marking, depth, rank in value[0]:
                self.assertEqual(rank, self.distance(net, marking, (1,)))
                self.assertEqual(depth, self.distance(net, (0,), marking))
        self.assertGreater(many, 50)

    def distance(self, net, start, end):
        """The number of rounds in which the markings within reach come to include end."""
        found, rounds = {start}, 0
        while end not in found:
            found |= {behind for marking in found
                      for behind, doubled in reference.leads(net, marking) if not doubled}
            rounds += 1
        return rounds

    def test_changed_grounds(self):
        chance = random.Random(7)
        told = [0, 0]
        for net in nets(7, 400):
            value = grounds(net)
            if value is None:
                value = (tuple((marking, 1, 1) for marking in sorted(reference.closure(net))),
                         tuple(step[0] for step in net[1]))
            for _ in range(10):
                changed = self.changed(chance, net, value)
                right = reference.grounds_fault(net, changed[0], changed[1])
                told[right is None] += 1
                self.check(net, changed, right)
                self.check(as_lists(net), as_lists(changed), right)
        self.assertGreater(min(told), 30, told)

    def check(self, net, value, right):
        if right is None:
            self.assertIs(grounds_hold(net, value), True)
            self.assertIsNone(unsound(net))
            return
        with self.assertRaises(BadGrounds) as caught:
            grounds_hold(net, value)
        self.assertEqual(caught.exception.at, right, (net, value))

    def changed(self, chance, net, value):
        """Grounds with a triple more or less, another number, or other names."""
        triples, names = list(value[0]), value[1]
        at = chance.randrange(len(triples))
        marking, depth, rank = triples[at]
        way = chance.randrange(5)
        if way == 0:
            del triples[at]
        elif way == 1:
            triples[at] = (marking, chance.choice(NUMBERS), rank)
        elif way == 2:
            triples[at] = (marking, depth, chance.choice(NUMBERS))
        elif way == 3:
            other = tuple(place for place in range(net[0]) if chance.randrange(2))
            row = (other, chance.choice(NUMBERS), chance.choice(NUMBERS))
            triples = sorted([kept for kept in triples if kept[0] != other] + [row])
        else:
            names = names[1:]
        return tuple(triples), names


class WaysTest(unittest.TestCase):

    def test_finish_is_as_the_reference_tells(self):
        chance = random.Random(8)
        told = [0, 0]
        for net in nets(8, 300, most_places=7, most_steps=7):
            markings = sorted(reference.closure(net))
            others = [tuple(place for place in range(net[0]) if chance.randrange(2)) for _ in range(3)]
            for marking in chance.sample(markings, min(3, len(markings))) + others:
                try:
                    right = reference.finish(net, marking)
                except reference.TooLong:
                    continue
                self.assertEqual(finish(net, marking), right, (net, marking))
                told[right is None] += 1
        self.assertGreater(min(told), 100, told)


if __name__ == "__main__":
    unittest.main()
