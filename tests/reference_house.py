"""The points [50] to [66] once more, slowly and by their words, to compare with.

What a house knows is asked of its rows wherever they tell it, and the clock goes on by single
ticks. Only the errors, and the words of `unsound`, are taken from the package.
"""

from reference import lead, take
from reference_runs import fits

from wholeflow.errors import BadValue, Late, NoFlow, NoInstance, NoMove, NoRight, NotNow, TooMany, Unsound
from wholeflow.nets import is_net
from wholeflow.sound import unsound

LETTERS = "abcdefghijklmnopqrstuvwxyz"


def as_tuples(value):
    return tuple(as_tuples(part) for part in value) if isinstance(value, (list, tuple)) else value


def integer(value, least, most):
    return type(value) is int and least <= value <= most


def word(value):
    return type(value) is str and 1 <= len(value) <= 8 and all(letter in LETTERS for letter in value)


def due(calendar, tick, ticks):
    while ticks > 0:
        if calendar is None or tick % calendar[0] in calendar[1]:
            ticks -= 1
        tick += 1
    return tick


def ask(*holds):
    """BadValue for the first of the arguments that is not as described; None for what is not asked here."""
    for at, told in enumerate(holds):
        if told is not None and not told:
            raise BadValue(at)


class SlowHouse:

    def __init__(self):
        self.rows = []
        self.tick = 0
        self.granted = set()
        self.nets = {}
        self.set_queues = {}
        self.cases = []
        self.jobs = []
        self.last_job = 0

    # What a house is asked.

    def log(self):
        return tuple(self.rows)

    def now(self):
        return self.tick

    def rights(self):
        return tuple(sorted(self.granted))

    def flows(self):
        return tuple((flow, len(nets)) for flow, nets in sorted(self.nets.items()))

    def net(self, flow, version):
        if not word(flow) or flow not in self.nets:
            raise NoFlow(flow)
        ask(None, integer(version, 1, len(self.nets[flow])))
        return self.nets[flow][version - 1]

    def queues(self):
        return tuple((queue,) + rule for queue, rule in sorted(self.set_queues.items()))

    def instances(self):
        return tuple(range(1, len(self.cases) + 1))

    def instance(self, number):
        case = self.case(number)
        return (case["flow"], case["version"], case["owner"], case["priority"], case["status"],
                case["marking"], tuple(case["taken"]), tuple(sorted(case["signals"])))

    def waits(self):
        return tuple(sorted((case["number"], name, until)
                            for case in self.cases for name, until in case["waits"].items()))

    def tasks(self):
        return tuple(sorted(
            (job["number"], job["case"]["number"], job["step"], job["queue"], job["offered"], job["tries"],
             job["state"], job["worker"], job["fence"], job["until"]) for job in self.jobs))

    def listing(self, who, flow, status):
        ask(word(who), flow is None or word(flow),
            status is None or status in ("running", "ended", "undoing", "undone"))
        return tuple(case["number"] for case in self.cases
                     if flow in (None, case["flow"]) and status in (None, case["status"])
                     and (case["owner"] == who or self.may(who, "see", case["flow"])))

    # Rights, flows, queues.

    def may(self, person, act, flow):
        return person == "root" or (person, act, flow) in self.granted

    def only_root(self, who, act):
        if who != "root":
            raise NoRight(act)

    def add_row(self, *row):
        self.rows.append((self.tick,) + row)

    def grant(self, who, person, act, flow):
        ask(word(who), word(person), act in ("start", "steer", "see", "work"), word(flow))
        self.only_root(who, "grant")
        self.add_row("grant", who, person, act, flow)
        self.granted.add((person, act, flow))

    def revoke(self, who, person, act, flow):
        ask(word(who), word(person), act in ("start", "steer", "see", "work"), word(flow))
        self.only_root(who, "grant")
        self.add_row("revoke", who, person, act, flow)
        self.granted.discard((person, act, flow))

    def publish(self, who, flow, net):
        ask(word(who), word(flow), is_net(net))
        self.only_root(who, "publish")
        wrong = unsound(net)
        if wrong is not None:
            raise Unsound(wrong[0])
        if flow not in self.nets and len(self.nets) >= 6:
            raise TooMany
        if flow in self.nets and len(self.nets[flow]) >= 9:
            raise TooMany
        self.add_row("publish", who, flow, as_tuples(net))
        self.nets.setdefault(flow, []).append(as_tuples(net))
        return len(self.nets[flow])

    def queue(self, who, queue, aging, rate, window):
        ask(word(who), word(queue), integer(aging, 0, 1000), integer(rate, 1, 10), integer(window, 1, 1000))
        self.only_root(who, "queue")
        self.add_row("queue", who, queue, aging, rate, window)
        self.set_queues[queue] = (aging, rate, window)

    # Instances.

    def case(self, number):
        if not integer(number, 1, len(self.cases)):
            raise NoInstance(number)
        return self.cases[number - 1]

    def steered(self, who, number):
        case = self.case(number)
        if not self.may(who, "steer", case["flow"]):
            raise NoRight("steer")
        if case["status"] != "running":
            raise NotNow(case["status"])
        return case

    def net_of(self, case):
        return self.nets[case["flow"]][case["version"] - 1]

    def start(self, who, flow, priority):
        ask(word(who))
        if not word(flow) or flow not in self.nets:
            raise NoFlow(flow)
        ask(None, None, integer(priority, 0, 3))
        if not self.may(who, "start", flow):
            raise NoRight("start")
        if sum(case["status"] in ("running", "undoing") for case in self.cases) >= 8:
            raise TooMany
        self.add_row("start", who, flow, priority)
        case = {"number": len(self.cases) + 1, "flow": flow, "version": len(self.nets[flow]), "owner": who,
                "priority": priority, "status": "running", "marking": (0,), "taken": [], "kinds": [],
                "signals": [], "waits": {}}
        self.cases.append(case)
        self.settle(case)
        return case["number"]

    def enabled(self, case):
        return [step for step in self.net_of(case)[1] if take(step, case["marking"]) is not None]

    def settle(self, case):
        while case["status"] == "running":
            plain = [step for step in self.enabled(case) if step[1] == ("plain",)]
            sent = [step for step in self.enabled(case)
                    if step[1][0] == "signal" and step[1][1] in case["signals"]]
            if case["marking"] == (1,):
                case["status"] = "ended"
                self.empty(case)
            elif plain:
                self.take_step(case, plain[0])
            elif sent:
                case["signals"].remove(sent[0][1][1])
                self.take_step(case, sent[0])
            else:
                for step in self.enabled(case):
                    self.offer(case, step)
                return

    def empty(self, case):
        self.jobs = [job for job in self.jobs if job["case"] is not case]
        case["waits"] = {}
        case["signals"] = []

    def offer(self, case, step):
        name, kind = step[:2]
        if kind[0] == "wait" and name not in case["waits"]:
            case["waits"][name] = due(kind[2], self.tick, kind[1])
        has_one = [job for job in self.jobs if job["case"] is case and job["step"] == name]
        if kind[0] == "task" and not has_one:
            self.new_job(case, name, kind[1], kind[2], kind[3])

    def new_job(self, case, step, queue, tries, lease):
        self.last_job += 1
        self.jobs.append({
            "number": self.last_job, "case": case, "step": step, "queue": queue, "offered": self.tick,
            "tries": tries, "lease": lease, "failed": 0, "state": "ready", "worker": None, "fence": 0, "until": 0,
        })

    def take_step(self, case, step):
        case["marking"] = take(step, case["marking"])[0]
        case["taken"].append(step[0])
        case["kinds"].append(step[1])
        gone = [other[0] for other in self.net_of(case)[1] if set(other[2]) & set(step[2])]
        self.jobs = [job for job in self.jobs if job["case"] is not case or job["step"] not in gone]
        case["waits"] = {name: until for name, until in case["waits"].items() if name not in gone}

    def step_named(self, case, name):
        return [step for step in self.net_of(case)[1] if step[0] == name][0]

    def cancel(self, who, instance):
        ask(word(who))
        case = self.steered(who, instance)
        self.add_row("cancel", who, instance)
        self.undo(case)

    def undo(self, case):
        case["status"] = "undoing"
        self.empty(case)
        case["left"] = [(name, kind) for name, kind in zip(case["taken"], case["kinds"])
                        if kind[0] == "task" and kind[4] is not None]
        self.undo_next(case)

    def undo_next(self, case):
        if case["left"]:
            name, kind = case["left"][-1]
            self.new_job(case, name, kind[4], 0, kind[3])
        else:
            case["status"] = "undone"

    def choose(self, who, instance, step):
        ask(word(who), None, word(step))
        case = self.steered(who, instance)
        ask(None, None, (step, ("choice",)) in [(other[0], other[1]) for other in self.enabled(case)])
        self.add_row("choose", who, instance, step)
        self.take_step(case, self.step_named(case, step))
        self.settle(case)

    def signal(self, who, instance, word_sent):
        ask(word(who), None, word(word_sent))
        case = self.steered(who, instance)
        if len(case["signals"]) >= 20:
            raise TooMany
        self.add_row("signal", who, instance, word_sent)
        case["signals"].append(word_sent)
        self.settle(case)

    def move(self, who, instance, version):
        ask(word(who), None, type(version) is int)
        case = self.steered(who, instance)
        ask(None, None, 1 <= version <= len(self.nets[case["flow"]]))
        net = self.nets[case["flow"]][version - 1]
        wrong = fits(net, tuple(case["taken"]))
        if wrong is not None:
            raise NoMove(wrong)
        self.add_row("move", who, instance, version)
        signals = case["signals"]
        self.empty(case)
        case["signals"] = signals
        case["version"] = version
        case["marking"] = lead(net, case["taken"])
        self.settle(case)

    # Tasks and the clock.

    def claim(self, worker, queue):
        ask(word(worker), word(queue))
        aging, rate, window = self.set_queues.get(queue, (0, 10, 1))
        claims = [row for row in self.rows if row[1] == "claim" and row[3] == queue and row[0] > self.tick - window]
        ready = [job for job in self.jobs if job["queue"] == queue and job["state"] == "ready"
                 and self.may(worker, "work", job["case"]["flow"])]
        if len(claims) >= rate or not ready:
            return None
        fence = 1 + sum(row[1] == "claim" for row in self.rows)
        job = sorted(ready, key=lambda job: (job["offered"] - job["case"]["priority"] * aging, job["number"]))[0]
        self.add_row("claim", worker, queue)
        job.update(state="held", worker=worker, fence=fence, until=self.tick + job["lease"])
        return job["number"], fence

    def held(self, worker, number, fence):
        for job in self.jobs:
            if job["state"] == "held" and type(number) is int and type(fence) is int:
                if (job["worker"], job["number"], job["fence"]) == (worker, number, fence):
                    return job
        raise Late

    def done(self, worker, number, fence):
        job = self.held(worker, number, fence)
        self.add_row("done", worker, number, fence)
        self.jobs.remove(job)
        case = job["case"]
        if case["status"] == "undoing":
            case["left"].pop()
            self.undo_next(case)
        else:
            self.take_step(case, self.step_named(case, job["step"]))
            self.settle(case)

    def fail(self, worker, number, fence):
        job = self.held(worker, number, fence)
        self.add_row("fail", worker, number, fence)
        self.job_fails(job)

    def job_fails(self, job):
        job["failed"] += 1
        undoing = job["case"]["status"] == "undoing"
        if not undoing:
            job["tries"] -= 1
        if not undoing and job["tries"] == 0:
            self.undo(job["case"])
            return
        k = min(job["failed"], 6) if undoing else job["failed"]
        job.update(state="resting", worker=None, fence=0, until=self.tick + 2 ** (k - 1))

    def beat(self, worker, number, fence):
        job = self.held(worker, number, fence)
        self.add_row("beat", worker, number, fence)
        job["until"] = self.tick + job["lease"]

    def clock(self, tick):
        ask(type(tick) is int and self.tick < tick <= self.tick + 1000 and tick <= 10 ** 6)
        self.add_row("clock", tick)
        while self.tick < tick:
            self.tick += 1
            for job in sorted(self.jobs, key=lambda job: job["number"]):
                if job in self.jobs and job["state"] == "held" and job["until"] <= self.tick:
                    self.job_fails(job)
            for job in self.jobs:
                if job["state"] == "resting" and job["until"] <= self.tick:
                    job.update(state="ready", until=0)
            self.waits_end()

    def waits_end(self):
        for case in self.cases:
            for step in self.nets[case["flow"]][case["version"] - 1][1]:
                if case["waits"].get(step[0]) == self.tick:
                    self.take_step(case, step)
                    self.settle(case)
