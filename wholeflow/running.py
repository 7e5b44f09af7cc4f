"""How instances go on: steps are taken, tasks and waits come and go, taken steps are undone."""

from wholeflow.hours import due
from wholeflow.nets import is_enabled, marking_behind
from wholeflow.records import ENDED, UNDOING, UNDONE, Instance, Task
from wholeflow.sound import END


def net_of(state, instance):
    """The net by which the instance goes."""
    return state.nets[instance.flow][instance.version - 1]


def begin_instance(state, flow, owner, priority):
    """A new instance of the newest version, settled."""
    instance = Instance(len(state.begun) + 1, flow, len(state.nets[flow]), owner, priority)
    state.begun.append(instance)
    state.going[instance.number] = instance
    settle(state, instance)
    return instance


def settle(state, instance):
    """Takes steps as long as one is to be taken at once, then offers tasks and begins waits."""
    net = net_of(state, instance)
    while instance.marking != END:
        step = step_at_once(net, instance)
        if step is None:
            offer_steps(state, instance, net)
            return
        take(state, instance, step)
    clear_away(state, instance)
    leave(state, instance, ENDED)


def step_at_once(net, instance):
    """The enabled step that is to be taken at once, or None."""
    free = [step for step in net[1] if is_enabled(step, instance.marking)]
    for step in free:
        if step[1][0] == "plain":
            return step
    for step in free:
        if step[1][0] == "signal" and step[1][1] in instance.signals:
            return step
    return None


def take(state, instance, step):
    """Takes an enabled step; what shares its ins is gone."""
    name, kind, ins, _ = step
    instance.marking = marking_behind(step, instance.marking)
    instance.taken.append(name)
    if kind[0] == "signal":
        instance.signals.remove(kind[1])
    if kind[0] == "task":
        note_undo(instance, step)
    for task in tasks_of(state, instance):
        if shares(task.ins, ins):
            del state.open_tasks[task.number]
    steps = net_of(state, instance)[1]
    instance.dues = {at: instance.dues[at] for at in instance.dues if not shares(steps[at][2], ins)}


def note_undo(instance, step):
    """Keeps how a taken task step is to be undone, as a later version may say otherwise."""
    _, _, _, lease, undo = step[1]
    if undo is not None:
        instance.to_undo.append((step[0], undo, lease))


def shares(places, others):
    """Whether a place is among both."""
    return any([place in others for place in places])


def tasks_of(state, instance):
    """All tasks of the instance."""
    return [task for task in state.open_tasks.values() if task.instance_number == instance.number]


def clear_away(state, instance):
    """All tasks, waits and signals of the instance are gone."""
    clear_offers(state, instance)
    instance.signals = []


def clear_offers(state, instance):
    """All tasks and waits of the instance are gone."""
    for task in tasks_of(state, instance):
        del state.open_tasks[task.number]
    instance.dues = {}


def leave(state, instance, status):
    """The instance comes to its last status."""
    instance.status = status
    del state.going[instance.number]


def offer_steps(state, instance, net):
    """Each enabled step of a task or wait that has none gets one."""
    offered = [task.step_name for task in tasks_of(state, instance)]
    for at, step in enumerate(net[1]):
        if is_enabled(step, instance.marking):
            kind = step[1]
            if kind[0] == "task" and step[0] not in offered:
                offer_task(state, instance, step)
            if kind[0] == "wait" and at not in instance.dues:
                instance.dues[at] = due(kind[2], state.tick, kind[1])


def offer_task(state, instance, step):
    """A task for a step of the instance."""
    _, queue, tries, lease, _ = step[1]
    add_task(state, instance, step[0], step[2], queue, tries, lease)


def add_task(state, instance, name, ins, queue, tries, lease):
    """A task with the next number, offered now."""
    state.last_task += 1
    task = Task(state.last_task, instance.number, state.tick, name, ins, queue, tries, lease)
    state.open_tasks[task.number] = task


def begin_undoing(state, instance):
    """A running instance begins to be undone."""
    clear_away(state, instance)
    instance.status = UNDOING
    offer_undoing(state, instance)


def offer_undoing(state, instance):
    """A task that undoes the last step that is still to be undone, if there is one."""
    if len(instance.to_undo) == 0:
        leave(state, instance, UNDONE)
        return
    name, queue, lease = instance.to_undo[-1]
    add_task(state, instance, name, (), queue, 0, lease)


def finish_task(state, task):
    """A held task is done: its step is taken, or undone."""
    instance = state.going[task.instance_number]
    if is_undoing(task):
        del state.open_tasks[task.number]
        instance.to_undo.pop()
        offer_undoing(state, instance)
    else:
        take_named(state, instance, task.step_name)


def is_undoing(task):
    """Whether the task undoes a step."""
    return task.tries == 0


def take_named(state, instance, name):
    """Takes the step with this name, and settles the instance."""
    for step in net_of(state, instance)[1]:
        if step[0] == name:
            take(state, instance, step)
    settle(state, instance)
