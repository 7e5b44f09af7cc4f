"""Houses: flows, their instances, the tasks of these, and the log of all that happened."""

from wholeflow.errors import BadRow, FlowError, Late, NoFlow, NoInstance, NoMove, NoRight, NotNow, TooMany, Unsound
from wholeflow.forms import MOST_TICK, is_integer, is_number, is_sequence, is_word, require
from wholeflow.nets import checked_net, enabled_step
from wholeflow.records import ENDED, RUNNING, UNDOING, UNDONE, State, copied_state
from wholeflow.running import (
    begin_instance, begin_undoing, clear_offers, finish_task, net_of, settle, take,
)
from wholeflow.sound import unsound
from wholeflow.versions import fits, marking_after
from wholeflow.working import MOST_RATE, ROOT, fail_task, go_forward, has_right, held_task, hold, next_task

ACTS = ("start", "steer", "see", "work")
STATUSES = (RUNNING, ENDED, UNDOING, UNDONE)
MOST_FLOWS = 6
MOST_VERSIONS = 9
MOST_AGING = 1000
MOST_WINDOW = 1000
MOST_PRIORITY = 3
MOST_GOING = 8
MOST_SIGNALS = 20
MOST_FORWARD = 1000

# How many arguments each command has.
COMMANDS = {
    "grant": 4, "revoke": 4, "publish": 3, "queue": 5, "start": 3, "claim": 2, "done": 3, "fail": 3,
    "beat": 3, "clock": 1, "cancel": 2, "choose": 3, "signal": 3, "move": 3,
}


class House:
    """A house of workflows."""

    def __init__(self):
        self._rows = []
        self._state = State()

    def __eq__(self, other):
        return isinstance(other, House) and self._rows == other._rows

    def _note(self, name, arguments):
        """Adds a row to the log, ahead of what it tells."""
        self._rows.append((self._state.tick, name) + arguments)

    def log(self):
        """All rows, one for each command that was not refused."""
        return tuple(self._rows)

    def now(self):
        """The present tick."""
        return self._state.tick

    def grant(self, who, person, act, flow):
        """Gives a right."""
        check_grant(who, person, act, flow)
        self._note("grant", (who, person, act, flow))
        self._state.granted[(person, act, flow)] = True

    def revoke(self, who, person, act, flow):
        """Takes a right away, if it is there."""
        check_grant(who, person, act, flow)
        self._note("revoke", (who, person, act, flow))
        self._state.granted.pop((person, act, flow), None)

    def rights(self):
        """The rights that were granted and not revoked."""
        return tuple(sorted(self._state.granted))

    def publish(self, who, flow, net):
        """Adds a version of the flow, and returns its number."""
        require(is_word(who), 0)
        require(is_word(flow), 1)
        net = checked_net(net, 2)
        check_root(who, "publish")
        wrong = unsound(net)
        if wrong is not None:
            raise Unsound(wrong[0])
        nets = self._state.nets
        if flow not in nets and len(nets) == MOST_FLOWS:
            raise TooMany()
        if len(nets.get(flow, [])) == MOST_VERSIONS:
            raise TooMany()
        self._note("publish", (who, flow, net))
        nets[flow] = nets.get(flow, []) + [net]
        return len(nets[flow])

    def flows(self):
        """The flows, each with its number of versions."""
        nets = self._state.nets
        return tuple([(flow, len(nets[flow])) for flow in sorted(nets)])

    def net(self, flow, version):
        """The net of a version."""
        check_flow(self._state, flow)
        nets = self._state.nets[flow]
        require(is_integer(version, 1, len(nets)), 1)
        return nets[version - 1]

    def queue(self, who, queue, aging, rate, window):
        """Sets a queue."""
        require(is_word(who), 0)
        require(is_word(queue), 1)
        require(is_integer(aging, 0, MOST_AGING), 2)
        require(is_integer(rate, 1, MOST_RATE), 3)
        require(is_integer(window, 1, MOST_WINDOW), 4)
        check_root(who, "queue")
        self._note("queue", (who, queue, aging, rate, window))
        self._state.rules[queue] = (aging, rate, window)

    def queues(self):
        """The queues that were set, each with its aging, rate and window."""
        rules = self._state.rules
        return tuple([(queue,) + rules[queue] for queue in sorted(rules)])

    def start(self, who, flow, priority):
        """Starts an instance of the newest version, and returns its number."""
        require(is_word(who), 0)
        check_flow(self._state, flow)
        require(is_integer(priority, 0, MOST_PRIORITY), 2)
        check_right(self._state, who, "start", flow)
        if len(self._state.going) == MOST_GOING:
            raise TooMany()
        self._note("start", (who, flow, priority))
        return begin_instance(self._state, flow, who, priority).number

    def instances(self):
        """The numbers of all instances."""
        return tuple([instance.number for instance in self._state.begun])

    def instance(self, number):
        """What an instance is at."""
        found = instance_of(self._state, number)
        return (found.flow, found.version, found.owner, found.priority, found.status,
                found.marking, tuple(found.taken), tuple(sorted(found.signals)))

    def waits(self):
        """The waits, each with its instance, its step, and when it is due."""
        state = self._state
        found = [(instance.number, net_of(state, instance)[1][at][0], instance.dues[at])
                 for instance in state.going.values() for at in instance.dues]
        return tuple(sorted(found))

    def tasks(self):
        """What each task is at."""
        tasks = self._state.open_tasks
        return tuple([task_row(tasks[number]) for number in sorted(tasks)])

    def claim(self, worker, queue):
        """Hands a task of the queue to the worker: its number and a fence, or None."""
        require(is_word(worker), 0)
        require(is_word(queue), 1)
        task = next_task(self._state, worker, queue)
        if task is None:
            return None
        self._note("claim", (worker, queue))
        hold(self._state, task, worker)
        return task.number, task.fence

    def done(self, worker, number, fence):
        """The worker has done the task."""
        task = checked_task(self._state, worker, number, fence)
        self._note("done", (worker, number, fence))
        finish_task(self._state, task)

    def fail(self, worker, number, fence):
        """The worker has failed."""
        task = checked_task(self._state, worker, number, fence)
        self._note("fail", (worker, number, fence))
        fail_task(self._state, task)

    def beat(self, worker, number, fence):
        """The worker still works on the task."""
        task = checked_task(self._state, worker, number, fence)
        self._note("beat", (worker, number, fence))
        task.until = self._state.tick + task.lease

    def clock(self, tick):
        """Goes forward to a greater tick."""
        present = self._state.tick
        require(is_integer(tick, present + 1, min(present + MOST_FORWARD, MOST_TICK)), 0)
        self._note("clock", (tick,))
        go_forward(self._state, tick)

    def cancel(self, who, instance):
        """A running instance begins to be undone."""
        require(is_word(who), 0)
        found = steered_instance(self._state, who, instance)
        self._note("cancel", (who, instance))
        begin_undoing(self._state, found)

    def choose(self, who, instance, step):
        """Takes a choice step."""
        require(is_word(who), 0)
        require(is_word(step), 2)
        found = steered_instance(self._state, who, instance)
        chosen = enabled_step(net_of(self._state, found), found.marking, step)
        require(chosen is not None and chosen[1][0] == "choice", 2)
        self._note("choose", (who, instance, step))
        take(self._state, found, chosen)
        settle(self._state, found)

    def signal(self, who, instance, word):
        """A word waits for the instance, once more."""
        require(is_word(who), 0)
        require(is_word(word), 2)
        found = steered_instance(self._state, who, instance)
        if len(found.signals) == MOST_SIGNALS:
            raise TooMany()
        self._note("signal", (who, instance, word))
        found.signals.append(word)
        settle(self._state, found)

    def move(self, who, instance, version):
        """The instance goes on by another version, or begins anew to wait by its own."""
        require(is_word(who), 0)
        require(is_number(version), 2)
        found = steered_instance(self._state, who, instance)
        nets = self._state.nets[found.flow]
        require(1 <= version <= len(nets), 2)
        wrong = fits(nets[version - 1], found.taken)
        if wrong is not None:
            raise NoMove(wrong)
        self._note("move", (who, instance, version))
        clear_offers(self._state, found)
        found.version = version
        found.marking = marking_after(nets[version - 1], found.taken)
        settle(self._state, found)

    def listing(self, who, flow, status):
        """The numbers of the instances of this flow and status that the person may see."""
        require(is_word(who), 0)
        require(flow is None or is_word(flow), 1)
        require(status is None or status in STATUSES, 2)
        return tuple([instance.number for instance in self._state.begun
                      if flow is None or instance.flow == flow
                      if status is None or instance.status == status
                      if instance.owner == who or has_right(self._state, who, "see", instance.flow)])

    def kept(self):
        """A plain value that holds all of the house."""
        # The log tells all that a house is.
        return self.log()

    def copy(self):
        """Another house that is the same."""
        other = House()
        other._rows = list(self._rows)
        other._state = copied_state(self._state)
        return other


def check_root(who, act):
    """NoRight for another person than root."""
    if who != ROOT:
        raise NoRight(act)


def check_right(state, who, act, flow):
    """NoRight for a person without this right."""
    if not has_right(state, who, act, flow):
        raise NoRight(act)


def check_grant(who, person, act, flow):
    """Refuses what can be neither granted nor revoked."""
    require(is_word(who), 0)
    require(is_word(person), 1)
    require(act in ACTS, 2)
    require(is_word(flow), 3)
    check_root(who, "grant")


def check_flow(state, flow):
    """NoFlow for what is no flow of the house."""
    if not is_word(flow) or flow not in state.nets:
        raise NoFlow(flow)


def instance_of(state, number):
    """The instance with this number."""
    if not is_integer(number, 1, len(state.begun)):
        raise NoInstance(number)
    return state.begun[number - 1]


def steered_instance(state, who, number):
    """The running instance with this number, which the person may steer."""
    found = instance_of(state, number)
    check_right(state, who, "steer", found.flow)
    if found.status != RUNNING:
        raise NotNow(found.status)
    return found


def checked_task(state, worker, number, fence):
    """The task that the worker holds so."""
    task = held_task(state, worker, number, fence)
    if task is None:
        raise Late()
    return task


def task_row(task):
    """What a task is at, as a tuple."""
    return (task.number, task.instance_number, task.step_name, task.queue_name, task.offered,
            task.tries, task.status, task.worker, task.fence, task.until)


def rebuild(rows):
    """The house with just these rows as its log."""
    if not is_sequence(rows):
        raise BadRow(0)
    house = House()
    actions = actions_of(house)
    for at, row in enumerate(rows):
        if not is_row(row, house.now()) or not is_taken_from(row, actions):
            raise BadRow(at)
    return house


def actions_of(house):
    """The commands of the house, by name."""
    return {
        "grant": house.grant, "revoke": house.revoke, "publish": house.publish, "queue": house.queue,
        # Ranges have a start, too: a name that a builtin value has is called where it stands.
        "start": lambda who, flow, priority: house.start(who, flow, priority),
        "claim": house.claim, "done": house.done, "fail": house.fail, "beat": house.beat,
        "clock": house.clock, "cancel": house.cancel, "choose": house.choose,
        "signal": house.signal, "move": house.move,
    }


def is_row(value, tick):
    """Whether value has the form of a row of this tick."""
    if not is_sequence(value) or len(value) < 2 or not is_integer(value[0], tick, tick):
        return False
    name = value[1]
    return isinstance(name, str) and name in COMMANDS and len(value) == 2 + COMMANDS[name]


def is_taken_from(row, actions):
    """Whether the command of the row is not refused, and is no claim that returns None."""
    name, *arguments = row[1:]
    action = actions[name]
    try:
        told = action(*arguments)
    except FlowError:
        return False
    return told is not None or name != "claim"


def revive(value):
    """The house of what `kept` returned."""
    return rebuild(value)
