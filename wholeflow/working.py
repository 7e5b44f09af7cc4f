"""How tasks are worked on: claims, failures, and what happens as time goes on."""

from wholeflow.forms import is_integer
from wholeflow.records import HELD, READY, RESTING
from wholeflow.running import begin_undoing, is_undoing, net_of, take_named

ROOT = "root"
MOST_RATE = 10
# What a queue has that was not set: aging, rate, window.
USUAL_RULE = (0, MOST_RATE, 1)
# How long a task rests behind its first failure, its second one, and so on.
RESTS = (1, 2, 4, 8, 16, 32)


def has_right(state, person, act, flow):
    """Whether the person has the right."""
    return person == ROOT or (person, act, flow) in state.granted


def next_task(state, worker, queue):
    """The task that the worker gets of the queue now, or None."""
    aging, rate, window = state.rules.get(queue, USUAL_RULE)
    recent = [tick for tick in state.claims.get(queue, []) if tick > state.tick - window]
    ready = ready_tasks(state, worker, queue)
    if len(recent) >= rate or len(ready) == 0:
        return None
    _, number = min([(task_key(state, task, aging), task.number) for task in ready])
    return state.open_tasks[number]


def ready_tasks(state, worker, queue):
    """The ready tasks of the queue for which the worker has the right."""
    return [task for task in state.open_tasks.values()
            if task.queue_name == queue and task.status == READY
            and has_right(state, worker, "work", state.going[task.instance_number].flow)]


def task_key(state, task, aging):
    """By what the tasks of a queue with this aging are ordered."""
    return task.offered - state.going[task.instance_number].priority * aging


def hold(state, task, worker):
    """The worker holds the task, with the next fence."""
    state.last_fence += 1
    task.status = HELD
    task.worker = worker
    task.fence = state.last_fence
    task.until = state.tick + task.lease
    # As no rate is above it, the last so many claims tell all.
    ticks = state.claims.get(task.queue_name, []) + [state.tick]
    state.claims[task.queue_name] = ticks[-MOST_RATE:]


def held_task(state, worker, number, fence):
    """The task that the worker holds so, or None."""
    if not is_number_of_task(state, number):
        return None
    task = state.open_tasks[number]
    if task.status != HELD or task.worker != worker or not is_integer(fence, task.fence, task.fence):
        return None
    return task


def is_number_of_task(state, value):
    """Whether value is the number of a task that is there."""
    return is_integer(value, 1, state.last_task) and value in state.open_tasks


def let_go(task, status, until):
    """No one holds the task any longer."""
    task.status = status
    task.worker = None
    task.fence = 0
    task.until = until


def fail_task(state, task):
    """A held task fails: it rests, or its instance begins to be undone."""
    if task.tries == 1:
        begin_undoing(state, state.going[task.instance_number])
        return
    if not is_undoing(task):
        task.tries -= 1
    let_go(task, RESTING, state.tick + RESTS[task.failures])
    task.failures = min(task.failures + 1, len(RESTS) - 1)


def go_forward(state, tick):
    """Goes forward to a greater tick."""
    nearest = nearest_event(state, tick)
    while nearest is not None:
        state.tick = nearest
        lapse(state)
        wake(state)
        end_waits(state)
        nearest = nearest_event(state, tick)
    state.tick = tick


def nearest_event(state, last):
    """The next tick up to last at which a task or a wait changes, or None."""
    ticks = [task.until for task in state.open_tasks.values() if task.status != READY]
    for instance in state.going.values():
        ticks.extend(list(instance.dues.values()))
    return min([tick for tick in ticks if tick <= last], default=None)


def tasks_until_now(state, status):
    """The numbers of the tasks with this status that have it until the present tick, ascending."""
    return sorted([task.number for task in state.open_tasks.values()
                   if task.status == status and task.until == state.tick])


def lapse(state):
    """The tasks that are held until the present tick fail."""
    for number in tasks_until_now(state, HELD):
        # The failure of another task may have ended this one.
        if number in state.open_tasks:
            fail_task(state, state.open_tasks[number])


def wake(state):
    """The tasks that rest until the present tick become ready."""
    for number in tasks_until_now(state, RESTING):
        let_go(state.open_tasks[number], READY, 0)


def end_waits(state):
    """The waits that are due at the present tick are taken, each instance being settled behind each."""
    for number, at in waits_due_now(state):
        instance = state.begun[number - 1]
        # A step that was taken in between may have ended this one.
        if instance.dues.get(at) == state.tick:
            take_named(state, instance, net_of(state, instance)[1][at][0])


def waits_due_now(state):
    """The pairs (number of the instance, number of the step), ascending."""
    return sorted([(instance.number, at) for instance in state.going.values()
                   for at in instance.dues if instance.dues[at] == state.tick])
