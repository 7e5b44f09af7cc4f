"""Promises [7] to [13], [15], [16] and [21], watched at houses led on by chance, call by call."""

import random
import unittest

import reference
import reference_runs
from house_checks import HouseChecks, house_of, later, outcome, row_of, sides_of, task
from house_makers import FLOWS, PEOPLE, STATUSES, Caller
from samples import CHOICE, LETTER, step

from wholeflow.errors import FlowError
from wholeflow.forecast import has_circle, span
from wholeflow.houses import House
from wholeflow.sound import finish
from wholeflow.versions import fits, marking_after

# The commands that ask for the right to steer.
STEERING = ("cancel", "choose", "signal", "move")


class Watcher:
    """Leads a house on, and keeps what its questions told at each moment."""

    def __init__(self, number):
        self.caller = Caller(number)
        self.house = House()
        self.kinds = {}
        self.ticks = {}
        self.undone = {}
        self.offers = {}
        self.moved = set()
        self.fences = []
        self.started = {}

    def calls(self, many):
        ahead = self.caller.first_calls()
        for at in range(many):
            name, arguments = ahead[at] if at < len(ahead) else self.caller.call(self.house)
            if name == "clock" and type(arguments[0]) is int and arguments[0] > self.house.now():
                # Tick by tick, so that each step's tick is seen.
                for tick in range(self.house.now() + 1, min(arguments[0], self.house.now() + 40) + 1):
                    yield name, (tick,)
            else:
                yield name, arguments


class PromisesTest(HouseChecks):

    def test_watched(self):
        self.seen = {}
        for number in range(900, 990):
            watcher = Watcher(number)
            for name, arguments in watcher.calls(230):
                self.watch(watcher, name, arguments)
            self.finish_all(watcher.house)
        for key, least in (("done", 500), ("choose", 500), ("signal", 100), ("wait", 100), ("plain", 100), ("ended", 200),
                           ("undone", 200), ("claim", 500), ("other key", 20), ("in time", 150), ("moved", 100),
                           ("no move", 5), ("refused for a right", 200)):
            self.assertGreater(self.seen.get(key, 0), least, key)

    def count(self, key):
        self.seen[key] = self.seen.get(key, 0) + 1

    def watch(self, watcher, name, arguments):
        house = watcher.house
        tasks = {row[0]: row for row in house.tasks()}
        waits = {row[:2]: row[2] for row in house.waits()}
        before = {number: house.instance(number) for number in house.instances()}
        rights, log, tick = house.rights(), house.log(), house.now()
        self.check_claim(house, name, arguments, tasks, before)
        told = outcome(house, name, arguments)
        taken = len(house.log()) > len(log)
        self.check_rights(name, arguments, rights, before, taken, told)
        if taken:
            self.assertEqual(house.log()[:-1], log)
        for number in house.instances():
            if house.instance(number) == before.get(number):
                continue
            self.check_history(house, number)
            new = house.instance(number)[6][len(before[number][6]) if number in before else 0:]
            self.check_causes(watcher, number, new, house.log()[-1] if taken else None, tasks, waits)
        if taken:
            self.check_fences(watcher, house, name, told, tasks, tick)
            self.note_undone(watcher, name, arguments, tasks)
            if name == "move":
                watcher.moved.add(arguments[1])
                self.count("moved")
            if name == "start":
                watcher.started[told[1]] = tick
        elif told[0] == "raised" and told[1].__name__ == "NoMove":
            self.count("no move")
        self.check_ends(watcher, before)

    # [16]

    def check_rights(self, name, arguments, rights, before, taken, told):
        if told[0] == "raised" and told[1].__name__ == "NoRight":
            self.count("refused for a right")
            self.assertNotEqual(arguments[0], "root")
        if not taken or name in ("done", "fail", "beat", "clock", "claim"):
            return
        if name in STEERING:
            self.assertTrue(arguments[0] == "root" or (arguments[0], "steer", before[arguments[1]][0]) in rights)
        elif name == "start":
            self.assertTrue(arguments[0] == "root" or (arguments[0], "start", arguments[1]) in rights)
        else:
            self.assertEqual(arguments[0], "root")

    # [12], [13] and the rights of [8]

    def check_claim(self, house, name, arguments, tasks, before):
        """What the claim that follows has to return."""
        if name != "claim" or not all(type(value) is str for value in arguments) or "" in arguments:
            return
        worker, queue = arguments
        rule = {row[0]: row[1:] for row in house.queues()}.get(queue, (0, 10, 1))
        ready = [row for row in tasks.values() if row[3] == queue and row[6] == "ready"
                 and (worker == "root" or (worker, "work", before[row[1]][0]) in house.rights())]
        recent = [row for row in house.log() if row[1] == "claim" and row[3] == queue
                  and house.now() - rule[2] < row[0] <= house.now()]
        keys = sorted((row[4] - before[row[1]][3] * rule[0], row[0]) for row in ready)
        told = outcome(house.copy(), "claim", arguments)
        if told[0] == "raised":
            return
        if ready and len(recent) < rule[1]:
            self.assertEqual(told[1][0], keys[0][1])
            self.count("claim")
            if keys[0][1] != min(row[0] for row in ready):
                self.count("other key")
        else:
            self.assertIsNone(told[1])

    # [9] and [10]

    def check_fences(self, watcher, house, name, told, tasks, tick):
        if name == "claim":
            number, fence = told[1]
            self.assertEqual(fence, len(watcher.fences) + 1)
            watcher.fences.append(number)
            row = {row[0]: row for row in house.tasks()}[number]
            self.assertEqual(tasks[number][6], "ready")
            self.assertEqual(row[6:9], ("held", house.log()[-1][2], fence))
            flow, version = house.instance(row[1])[:2]
            if house.instance(row[1])[4] == "running":
                kind = [step[1] for step in house.net(flow, version)[1] if step[0] == row[2]][0]
                self.assertLessEqual(watcher.fences.count(number), kind[2])
        if name in ("done", "fail", "beat"):
            worker, number, fence = house.log()[-1][2:]
            self.assertEqual(tasks[number][6:9], ("held", worker, fence))
            self.assertGreater(tasks[number][9], tick)
            self.assertEqual(watcher.fences[fence - 1], number)
            self.assertNotIn(number, watcher.fences[fence:])
        fences = [row[8] for row in house.tasks() if row[6] == "held"]
        self.assertEqual(len(fences), len(set(fences)))

    # [7]

    def check_history(self, house, number):
        flow, version, _, _, status, marking, taken, signals = house.instance(number)
        net = house.net(flow, version)
        self.assertIsNone(fits(net, taken))
        self.assertEqual(marking_after(net, taken), marking)
        if status == "running":
            self.assertIsNotNone(finish(net, marking))
            self.assertLessEqual(len(signals), 20)
        elif status == "ended":
            self.assertEqual(marking, (1,))

    # [8]

    def check_causes(self, watcher, number, new, row, tasks, waits):
        """Each new step has its cause, by the kind that it has in the net of the version."""
        house = watcher.house
        if not new:
            return
        flow, version = house.instance(number)[:2]
        kinds = {step[0]: step[1] for step in house.net(flow, version)[1]}
        name, arguments = row[1], row[2:]
        rest = list(new)
        if name == "done":
            self.assertEqual((tasks[arguments[1]][1:3], kinds[new[0]][0]), ((number, new[0]), "task"))
            self.count("done")
            watcher.offers[number, new[0]] = tasks[arguments[1]][4]
            rest = rest[1:]
        elif name == "choose":
            self.assertEqual((arguments[1:], kinds[new[0]][0]), ((number, new[0]), "choice"))
            self.count("choose")
            rest = rest[1:]
        elif name in ("signal", "move"):
            self.assertEqual(arguments[1], number)
        for word in rest:
            kind = kinds[word]
            if kind[0] == "wait":
                self.assertEqual((name, waits[number, word]), ("clock", house.now()))
            else:
                self.assertIn(kind[0], ("plain", "signal"))
            self.count(kind[0])
        self.assertIn(name, ("done", "choose", "signal", "move", "clock", "start"))
        watcher.kinds.setdefault(number, []).extend((word, kinds[word]) for word in new)
        watcher.ticks.setdefault(number, []).extend((word, house.now()) for word in new)
        self.check_signals(watcher, number)

    def check_signals(self, watcher, number):
        """No more steps of a word were taken than signals of it were sent."""
        sent = [row[4] for row in watcher.house.log() if row[1] == "signal" and row[3] == number]
        used = [kind[1] for _, kind in watcher.kinds[number] if kind[0] == "signal"]
        waiting = watcher.house.instance(number)[7]
        for word in set(used):
            self.assertLessEqual(used.count(word), sent.count(word))
        if watcher.house.instance(number)[4] == "running":
            self.assertEqual(sorted(used + list(waiting)), sorted(sent))

    # [11]

    def note_undone(self, watcher, name, arguments, tasks):
        if name == "done" and tasks[arguments[1]][5] == 0:
            _, number, word, queue = tasks[arguments[1]][:4]
            watcher.undone.setdefault(number, []).append((word, queue))

    def check_ends(self, watcher, before):
        house = watcher.house
        for number in house.instances():
            status = house.instance(number)[4]
            if number in before and before[number][4] == status:
                continue
            if status == "undone":
                right = [(word, kind[4]) for word, kind in watcher.kinds.get(number, [])
                         if kind[0] == "task" and kind[4] is not None]
                self.assertEqual(watcher.undone.get(number, [])[::-1], right)
                self.count("undone")
            elif status == "ended":
                self.assertNotIn(number, watcher.undone)
                self.check_time(watcher, number)
                self.count("ended")

    # [21]

    def check_time(self, watcher, number):
        house = watcher.house
        flow, version, _, _, _, _, taken, _ = house.instance(number)
        net = house.net(flow, version)
        if number in watcher.moved or has_circle(net):
            return
        begun = watcher.started[number]
        steps = {step[0]: step for step in net[1]}
        stands, took = {0: begun}, {}
        for word, tick in watcher.ticks.get(number, []):
            began = max(stands.pop(place) for place in steps[word][2])
            kind = steps[word][1][0]
            if kind == "task":
                self.assertEqual(watcher.offers[number, word], began)
            took[word] = 0 if kind == "plain" else tick - began
            for place in steps[word][3]:
                stands[place] = tick
        durations = [took.get(step[0], 0) for step in net[1]]
        finishing = reference_runs.finishing(net, durations, taken)
        self.assertEqual(begun + finishing, house.now())
        times = [(took[step[0]], took[step[0]]) if step[0] in took else (0, 1000) for step in net[1]]
        least, greatest = span(net, times)
        self.assertTrue(least <= finishing <= greatest)
        self.count("in time")

    # The second half of [7]

    def finish_all(self, house):
        """Commands bring every instance to its end."""
        for number in house.listing("root", None, "running"):
            self.finish_without_cancel(house.copy(), number)
            house.cancel("root", number)
        for number in house.listing("root", None, "undoing"):
            while house.instance(number)[4] == "undoing":
                self.work_on(house, number)
        for number in house.instances():
            self.assertIn(house.instance(number)[4], ("ended", "undone"))

    def work_on(self, house, number, word=None):
        """Does the task of the instance, be it ready, held or resting; or waits for it."""
        row = [row for row in house.tasks() if row[1] == number and word in (None, row[2])][0]
        if row[6] == "held":
            house.done(row[7], row[0], row[8])
            return
        if row[6] == "ready":
            told = house.claim("root", row[3])
            if told is not None:
                house.done("root", *told)
                return
        later(house, 1)

    def finish_without_cancel(self, house, number):
        flow, version = house.instance(number)[:2]
        net = house.net(flow, version)
        words = [step[1][1] for step in net[1] if step[1][0] == "signal"]
        if "wait" in [step[1][0] for step in net[1]] or len(set(words)) < len(words):
            return
        while house.instance(number)[4] == "running" and len(house.instance(number)[7]) < 20:
            word = finish(net, house.instance(number)[5])[0]
            kind = [step[1] for step in net[1] if step[0] == word][0]
            if kind[0] == "task":
                self.work_on(house, number, word)
            elif kind[0] == "choice":
                house.choose("root", number, word)
            else:
                house.signal("root", number, kind[1])
        self.assertIn(house.instance(number)[4], ("ended", "undoing", "undone", "running"))
        self.assertTrue(house.instance(number)[4] != "running" or len(house.instance(number)[7]) == 20)


class MovesTest(HouseChecks):

    def test_moved_if_and_only_if_the_steps_are_a_run(self):
        """Promise [15], for each instance of houses led on by chance and each version of its flow."""
        moved, refused = 0, 0
        for number in range(1000, 1040):
            watcher = Watcher(number)
            for name, arguments in watcher.calls(120):
                outcome(watcher.house, name, arguments)
            house = watcher.house
            for instance in house.listing("root", None, "running"):
                flow, _, _, _, _, _, taken, signals = house.instance(instance)
                for version in range(1, dict(house.flows())[flow] + 1):
                    other = house.copy()
                    right = reference.lead(house.net(flow, version), taken)
                    told = outcome(other, "move", ("root", instance, version))
                    moved += right is not None
                    refused += right is None
                    self.assertEqual(told[0], "raised" if right is None else "returned")
                    if right is not None:
                        self.assertEqual(other.instance(instance)[6][:len(taken)], taken)
                        if other.instance(instance)[6] == taken:
                            self.assertEqual(other.instance(instance)[5], right)
        self.assertGreater(moved, 100)
        self.assertGreater(refused, 10)


class ListingTest(HouseChecks):

    def test_just_what_may_be_seen(self):
        for number in range(1100, 1120):
            watcher = Watcher(number)
            for name, arguments in watcher.calls(150):
                outcome(watcher.house, name, arguments)
            house = watcher.house
            rows = [(at,) + house.instance(at) for at in house.instances()]
            for who in PEOPLE + ("none",):
                seen = [row for row in rows if row[3] == who or who == "root" or (who, "see", row[1]) in house.rights()]
                for flow in (None, "none") + FLOWS:
                    for status in (None,) + STATUSES:
                        right = [row[0] for row in seen if flow in (None, row[1]) and status in (None, row[5])]
                        self.assertEqual(house.listing(who, flow, status), tuple(right))


class FairTest(HouseChecks):

    def test_what_is_ready_is_not_overtaken_by_what_comes_much_later(self):
        """Promise [12]: with tasks of all priorities coming and going, one of the least priority gets its turn."""
        for aging in (0, 1, 5):
            chance = random.Random(aging)
            house = house_of((2, (("a", task("pens", 5, 1000, None), (0,), (1,)), ("b", CHOICE, (0,), (1,)))))
            house.queue("root", "pens", aging, 1, 2)
            for _ in range(400):
                running = house.listing("root", None, "running")
                if len(running) < 8 and chance.randrange(3):
                    house.start("root", "letter", chance.choice((0, 3, 3)))
                ready = {row[0]: row[4] for row in house.tasks() if row[6] == "ready"}
                told = house.claim("root", "pens")
                if told is not None:
                    for number, offered in ready.items():
                        self.assertFalse(offered + 3 * aging <= ready[told[0]] and number < told[0], (aging, ready, told))
                    house.done("root", *told)
                later(house, 1)


class EndsTest(HouseChecks):

    def test_with_waits_by_the_clock(self):
        """Promise [7]: where the clock can go on, waits end, too."""
        house = house_of(sides_of(("wait", 1000, (28, (0,))), ("signal", "go")), LETTER, row_of(("wait", 1000, None)))
        house.start("root", "letter", 0)
        later(house, 1000)
        self.status(house, 1, "ended")
        net = (4, (step("w", ("wait", 9, None), [0], [2]), step("go", ("signal", "go"), [2], [3]), step("a", CHOICE, [3], [1])))
        house.publish("root", "form", net)
        house.start("root", "form", 0)
        later(house, 9)
        house.signal("root", 2, "go")
        house.choose("root", 2, "a")
        self.status(house, 2, "ended")

    def test_no_command_is_refused_with_another_error(self):
        """Whatever values are passed, only errors of the package are raised."""
        values = (None, True, 0, 1, 2, "", "root", "letter", "go", (), [1], [["a"]], (0, (1, [None])), 10 ** 30, LETTER)
        chance = random.Random(5)
        house = house_of(LETTER)
        many = {"grant": 4, "revoke": 4, "publish": 3, "queue": 5, "start": 3, "claim": 2, "done": 3, "fail": 3, "beat": 3,
                "clock": 1, "cancel": 2, "choose": 3, "signal": 3, "move": 3, "listing": 3, "net": 2, "instance": 1}
        for _ in range(4000):
            name = chance.choice(sorted(many))
            arguments = [chance.choice(values) for _ in range(many[name])]
            log = house.log()
            try:
                getattr(house, name)(*arguments)
            except FlowError:
                self.assertEqual(house.log(), log)


if __name__ == "__main__":
    unittest.main()
