"""What a house keeps beside its log: its state, its instances and their tasks."""

RUNNING = "running"
ENDED = "ended"
UNDOING = "undoing"
UNDONE = "undone"

READY = "ready"
HELD = "held"
RESTING = "resting"


class Task:
    """A task of a step, or one that undoes a step that was taken: this one has no ins and no tries."""

    def __init__(self, number, instance_number, offered, step_name, ins, queue_name, tries, lease):
        self.number = number
        self.instance_number = instance_number
        self.offered = offered
        self.step_name = step_name
        self.ins = ins
        self.queue_name = queue_name
        self.tries = tries
        self.lease = lease
        self.failures = 0
        self.status = READY
        self.worker = None
        self.fence = 0
        self.until = 0


class Instance:
    """An instance of a version of a flow."""

    def __init__(self, number, flow, version, owner, priority):
        self.number = number
        self.flow = flow
        self.version = version
        self.owner = owner
        self.priority = priority
        self.status = RUNNING
        self.marking = (0,)
        self.taken = []
        # Triples (step, queue, lease) of what is to be undone, the last one first.
        self.to_undo = []
        self.signals = []
        # When the wait of a step is due, by the number of the step.
        self.dues = {}


class State:
    """All of a house but its log."""

    def __init__(self):
        self.tick = 0
        self.granted = {}
        # The versions of each flow.
        self.nets = {}
        # A triple (aging, rate, window) for each queue that was set.
        self.rules = {}
        # The ticks of the last claims of each queue.
        self.claims = {}
        self.begun = []
        # The instances that are running or being undone, by number, and all tasks, by number.
        self.going = {}
        self.open_tasks = {}
        self.last_task = 0
        self.last_fence = 0


def copied_task(task):
    """Another task that is the same."""
    other = Task(task.number, task.instance_number, task.offered, task.step_name, task.ins,
                 task.queue_name, task.tries, task.lease)
    other.failures = task.failures
    other.status = task.status
    other.worker = task.worker
    other.fence = task.fence
    other.until = task.until
    return other


def copied_instance(instance):
    """Another instance that is the same."""
    other = Instance(instance.number, instance.flow, instance.version, instance.owner, instance.priority)
    other.status = instance.status
    other.marking = instance.marking
    other.taken = list(instance.taken)
    other.to_undo = list(instance.to_undo)
    other.signals = list(instance.signals)
    other.dues = dict(instance.dues)
    return other


def copied_lists(table):
    """Another dict of lists that is the same."""
    return {key: list(table[key]) for key in table}


def copied_state(state):
    """Another state that is the same."""
    other = State()
    other.tick = state.tick
    other.granted = {right: True for right in state.granted}
    other.nets = copied_lists(state.nets)
    other.rules = dict(state.rules)
    other.claims = copied_lists(state.claims)
    other.begun = [copied_instance(instance) for instance in state.begun]
    other.going = {number: other.begun[number - 1] for number in state.going}
    other.open_tasks = {number: copied_task(state.open_tasks[number]) for number in state.open_tasks}
    other.last_task = state.last_task
    other.last_fence = state.last_fence
    return other
