"""Points [59] to [61], and promises [9], [10], [12], [13]: claims, fences, queues and their rates."""

import unittest

from house_checks import NO_NUMBERS, NO_WORDS, HouseChecks, choice_of, house_of, later, row_of, started, task, view
from samples import CHOICE, LETTER, step

from wholeflow.errors import BadValue, Late


def many(number, *nets, priorities=()):
    """A house with so many instances."""
    house = house_of(*nets)
    for at in range(number):
        house.start("root", "letter", priorities[at] if priorities else 0)
    return house


class ClaimTest(HouseChecks):

    def test_held(self):
        house = started(LETTER)
        later(house, 3)
        self.tasks(house, (1, 1, "write", "pens", 0, 2, "ready", None, 0, 0))
        self.assertEqual(self.taken(house, "claim", "root", "pens"), (1, 1))
        self.tasks(house, (1, 1, "write", "pens", 0, 2, "held", "root", 1, 13))
        self.assertIs(type(house.claim("root", "pens")), type(None))

    def test_none_is_ready(self):
        house = started(LETTER)
        for queue in ("bin", "ink", "write"):
            self.assertIsNone(house.claim("root", queue))
        house.claim("root", "pens")
        before = view(house)
        for worker in ("root", "ann"):
            self.assertIsNone(house.claim(worker, "pens"))
        self.assertEqual(view(house), before)

    def test_fences_go_on_over_queues_and_tasks(self):
        house = many(2, choice_of(task("pens"), task("ink")))
        self.assertEqual(house.claim("root", "ink"), (2, 1))
        self.assertEqual(house.claim("root", "pens"), (1, 2))
        house.fail("root", 1, 2)
        later(house, 1)
        self.assertEqual(house.claim("root", "pens"), (1, 3))
        self.assertEqual(house.claim("root", "pens"), (3, 4))
        house.done("root", 2, 1)
        self.assertIsNone(house.claim("root", "pens"))
        self.assertEqual(house.claim("root", "ink"), (4, 5))

    def test_leases(self):
        for lease in (1, 2, 999, 1000):
            house = started(choice_of(task("pens", 5, lease)))
            later(house, 7)
            house.claim("root", "pens")
            self.assertEqual(house.tasks()[0][9], 7 + lease)
            later(house, lease - 1)
            self.assertEqual(house.tasks()[0][6], "held")
            later(house, 1)
            self.tasks(house, (1, 1, "a", "pens", 0, 4, "resting", None, 0, 7 + lease + 1))

    def test_arguments_by_name(self):
        house = started(LETTER)
        self.assertEqual(house.claim(queue="pens", worker="root"), (1, 1))
        house.beat(fence=1, number=1, worker="root")
        house.done(fence=1, number=1, worker="root")
        house.choose("root", 1, "again")
        house.claim("root", "pens")
        house.fail(fence=2, number=2, worker="root")
        self.assertEqual(house.tasks()[0][6], "resting")

    def test_wrong_arguments_in_their_order(self):
        house = started(LETTER)
        for value in NO_WORDS:
            self.refused(house, BadValue, 0, "claim", value, value)
            self.refused(house, BadValue, 1, "claim", "root", value)


class OrderTest(HouseChecks):

    def test_the_first_offered_and_the_least_number(self):
        house = many(3, LETTER)
        later(house, 2)
        house.start("root", "letter", 3)
        self.assertEqual([house.claim("root", "pens")[0] for _ in range(4)], [1, 2, 3, 4])

    def test_priorities_do_not_count_without_aging(self):
        house = many(3, LETTER, priorities=(0, 3, 1))
        self.assertEqual([house.claim("root", "pens")[0] for _ in range(3)], [1, 2, 3])

    def test_priorities_times_aging(self):
        house = many(4, LETTER, priorities=(0, 3, 1, 3))
        house.queue("root", "pens", 1, 10, 1)
        self.assertEqual([house.claim("root", "pens")[0] for _ in range(4)], [2, 4, 3, 1])

    def test_a_tie_of_keys(self):
        house = many(1, LETTER)
        house.queue("root", "pens", 5, 10, 1)
        later(house, 5)
        house.start("root", "letter", 1)
        self.assertEqual(house.claim("root", "pens")[0], 1)
        house = many(1, LETTER)
        house.queue("root", "pens", 5, 10, 1)
        later(house, 4)
        house.start("root", "letter", 1)
        self.assertEqual(house.claim("root", "pens")[0], 2)
        house = many(1, LETTER)
        house.queue("root", "pens", 5, 10, 1)
        later(house, 6)
        house.start("root", "letter", 1)
        self.assertEqual(house.claim("root", "pens")[0], 1)

    def test_the_aging_of_the_queue_alone(self):
        house = many(2, choice_of(task("pens"), task("ink")), priorities=(0, 1))
        house.queue("root", "ink", 1, 10, 1)
        self.assertEqual(house.claim("root", "pens")[0], 1)
        self.assertEqual(house.claim("root", "ink")[0], 4)

    def test_a_queue_set_anew(self):
        house = many(2, LETTER, priorities=(0, 1))
        house.queue("root", "pens", 1000, 10, 1)
        house.queue("root", "pens", 0, 10, 1)
        self.assertEqual(house.claim("root", "pens")[0], 1)
        house = many(2, LETTER, priorities=(0, 1))
        house.queue("root", "pens", 0, 10, 1)
        house.queue("root", "pens", 1, 10, 1)
        self.assertEqual(house.claim("root", "pens")[0], 2)

    def test_offered_stays_behind_resting(self):
        house = many(1, LETTER)
        later(house, 1)
        house.start("root", "letter", 0)
        house.claim("root", "pens")
        house.fail("root", 1, 1)
        later(house, 1)
        self.assertEqual(house.tasks()[0], (1, 1, "write", "pens", 0, 1, "ready", None, 0, 0))
        self.assertEqual(house.claim("root", "pens"), (1, 2))

    def test_no_later_task_overtakes_three_times_the_aging_behind(self):
        for aging in (1, 4):
            house = many(1, LETTER)
            house.queue("root", "pens", aging, 10, 1)
            later(house, 3 * aging)
            house.start("root", "letter", 3)
            self.assertEqual(house.claim("root", "pens")[0], 1)
            house = many(1, LETTER)
            house.queue("root", "pens", aging, 10, 1)
            later(house, 3 * aging - 1)
            house.start("root", "letter", 3)
            self.assertEqual(house.claim("root", "pens")[0], 2)


class RateTest(HouseChecks):

    def house(self):
        return many(8, choice_of(task("pens", 5, 1000), task("pens", 5, 1000), task("pens", 5, 1000), task("ink")))

    def claims(self, house, number):
        """So many claims are taken and no more."""
        for _ in range(number):
            self.assertIsNotNone(house.claim("root", "pens"))
        before = view(house)
        self.assertIsNone(house.claim("root", "pens"))
        self.assertEqual(view(house), before)

    def test_a_queue_that_was_not_set(self):
        house = self.house()
        self.claims(house, 10)
        self.assertIsNotNone(house.claim("root", "ink"))
        later(house, 1)
        self.claims(house, 10)
        later(house, 1)
        self.claims(house, 4)

    def test_first_and_last_tick_of_a_window(self):
        house = self.house()
        house.queue("root", "pens", 0, 2, 5)
        later(house, 10)
        self.assertIsNotNone(house.claim("root", "pens"))
        later(house, 3)
        self.claims(house, 1)
        # The claim of tick 10 counts up to tick 14, that of tick 13 up to tick 17.
        later(house, 1)
        self.claims(house, 0)
        later(house, 1)
        self.claims(house, 1)
        later(house, 2)
        self.claims(house, 0)
        later(house, 1)
        self.claims(house, 1)
        later(house, 1)
        self.claims(house, 0)

    def test_a_window_of_one_and_of_a_thousand(self):
        house = self.house()
        house.queue("root", "pens", 0, 1, 1)
        for _ in range(3):
            self.claims(house, 1)
            later(house, 1)
        house.queue("root", "pens", 0, 3, 1000)
        self.claims(house, 0)
        later(house, 996)
        self.claims(house, 0)
        later(house, 1)
        self.claims(house, 1)
        later(house, 1)
        self.claims(house, 1)

    def test_as_it_is_set_then(self):
        house = self.house()
        self.claims(house, 10)
        house.queue("root", "pens", 0, 10, 1000)
        self.claims(house, 0)
        later(house, 999)
        self.claims(house, 0)
        later(house, 1)
        self.claims(house, 10)
        house.queue("root", "pens", 0, 1, 1)
        self.claims(house, 0)
        later(house, 1)
        self.claims(house, 1)
        house.queue("root", "pens", 0, 2, 1)
        self.claims(house, 1)
        house.queue("root", "pens", 0, 4, 2)
        self.claims(house, 0)

    def test_more_than_ten_claims_within_a_wider_window(self):
        house = self.house()
        for _ in range(2):
            self.claims(house, 10)
            later(house, 1)
        house.queue("root", "pens", 0, 10, 3)
        self.claims(house, 0)
        house.queue("root", "pens", 0, 10, 2)
        self.claims(house, 0)
        house.queue("root", "pens", 0, 10, 1)
        self.claims(house, 4)

    def test_claims_of_tasks_that_are_gone(self):
        house = started(LETTER)
        house.queue("root", "pens", 0, 1, 4)
        self.work(house, "pens")
        house.choose("root", 1, "again")
        self.claims(house, 0)
        later(house, 3)
        self.claims(house, 0)
        later(house, 1)
        self.claims(house, 1)

    def test_other_queues_and_claims_that_return_none_do_not_count(self):
        house = many(2, choice_of(task("pens"), task("ink")))
        house.queue("root", "pens", 0, 1, 10)
        house.claim("root", "ink")
        self.assertIsNone(house.claim("ann", "pens"))
        self.claims(house, 1)

    def test_undoing_tasks_count(self):
        house = many(2, row_of(task("pens", 2, 10, "pens"), CHOICE))
        house.queue("root", "pens", 0, 2, 10)
        self.work(house, "pens")
        house.cancel("root", 1)
        self.claims(house, 1)

    def test_by_all_workers_together(self):
        house = self.house()
        house.queue("root", "pens", 0, 2, 1)
        house.grant("root", "ann", "work", "letter")
        house.claim("ann", "pens")
        self.claims(house, 1)
        self.assertIsNone(house.claim("ann", "pens"))


class HolderTest(HouseChecks):

    def late(self, house, *arguments):
        for name in ("done", "fail", "beat"):
            self.refused(house, Late, None, name, *arguments)

    def test_whatever_is_passed(self):
        house = started(LETTER)
        house.claim("root", "pens")
        for value in NO_WORDS + ("ann", "roo", "roott"):
            self.late(house, value, 1, 1)
            self.late(house, value, value, value)
        for value in NO_NUMBERS + (0, 2, -1, 10 ** 30, -10 ** 30):
            self.late(house, "root", value, 1)
            self.late(house, "root", 1, value)
            self.late(house, "root", value, value)
        self.assertIsNone(house.done("root", 1, 1))

    def test_only_the_one_who_claimed_it_last_with_its_fence(self):
        house = many(2, LETTER)
        house.grant("root", "ann", "work", "letter")
        self.late(house, "root", 1, 0)
        self.late(house, None, 1, 0)
        house.claim("ann", "pens")
        house.claim("root", "pens")
        self.late(house, "root", 1, 1)
        self.late(house, "ann", 1, 2)
        self.late(house, "ann", 2, 1)
        self.late(house, "ann", 2, 2)
        house.fail("ann", 1, 1)
        self.late(house, "ann", 1, 1)
        later(house, 1)
        self.late(house, "ann", 1, 1)
        house.claim("root", "pens")
        self.late(house, "ann", 1, 1)
        self.late(house, "ann", 1, 3)
        self.late(house, "root", 1, 1)
        house.done("root", 1, 3)
        self.late(house, "root", 1, 3)

    def test_the_same_worker_with_an_earlier_fence(self):
        house = started(LETTER)
        house.claim("root", "pens")
        house.fail("root", 1, 1)
        later(house, 1)
        house.claim("root", "pens")
        self.late(house, "root", 1, 1)
        self.late(house, "root", 1, 3)
        house.done("root", 1, 2)

    def test_the_last_tick_of_a_lease_and_the_lapse(self):
        house = started(LETTER)
        house.claim("root", "pens")
        later(house, 9)
        house.beat("root", 1, 1)
        self.assertEqual(house.tasks()[0][9], 19)
        later(house, 9)
        self.assertEqual(house.tasks()[0][6], "held")
        later(house, 1)
        self.late(house, "root", 1, 1)
        self.tasks(house, (1, 1, "write", "pens", 0, 1, "resting", None, 0, 20))

    def test_of_tasks_that_are_gone(self):
        house = many(3, choice_of(task("pens"), task("pens"), CHOICE))
        for _ in range(6):
            house.claim("root", "pens")
        house.done("root", 1, 1)
        self.late(house, "root", 2, 2)
        house.choose("root", 2, "c")
        self.late(house, "root", 3, 3)
        self.late(house, "root", 4, 4)
        house.cancel("root", 3)
        self.late(house, "root", 5, 5)


class BeatTest(HouseChecks):

    def test_beats(self):
        house = started(choice_of(task("pens", 2, 4)))
        house.claim("root", "pens")
        for tick in range(1, 30):
            later(house, 1)
            self.assertIsNone(self.taken(house, "beat", "root", 1, 1))
            self.tasks(house, (1, 1, "a", "pens", 0, 2, "held", "root", 1, tick + 4))
        later(house, 4)
        self.assertEqual(house.tasks()[0][6], "resting")


class DoneTest(HouseChecks):

    def test_done(self):
        house = started(LETTER)
        later(house, 2)
        house.claim("root", "pens")
        later(house, 3)
        self.assertIsNone(self.taken(house, "done", "root", 1, 1))
        self.assertEqual(house.instance(1), ("letter", 1, "root", 0, "running", (2,), ("write",), ()))
        self.tasks(house)

    def test_the_next_step_is_offered_then(self):
        house = started(row_of(task("pens"), task("ink", 5, 7, None)))
        later(house, 4)
        self.work(house, "pens")
        self.tasks(house, (2, 1, "b", "ink", 4, 5, "ready", None, 0, 0))

    def test_the_right_step_of_several(self):
        house = started(choice_of(task("pens"), task("ink"), task("box")))
        self.work(house, "ink")
        self.steps_taken(house, 1, "b")


class FailTest(HouseChecks):

    def test_rests_of_one_two_four_and_eight(self):
        house = started(choice_of(task("pens", 5, 10, None)))
        for failed, rest in ((1, 1), (2, 2), (3, 4), (4, 8)):
            tick = house.now()
            house.claim("root", "pens")
            self.assertIsNone(self.taken(house, "fail", "root", 1, failed))
            self.tasks(house, (1, 1, "a", "pens", 0, 5 - failed, "resting", None, 0, tick + rest))
            later(house, rest - 1)
            self.assertIsNone(house.claim("root", "pens"))
            later(house, 1)
            self.tasks(house, (1, 1, "a", "pens", 0, 5 - failed, "ready", None, 0, 0))
        house.claim("root", "pens")
        house.fail("root", 1, 5)
        self.tasks(house)
        self.status(house, 1, "undone")

    def test_the_last_try(self):
        for tries in range(1, 6):
            house = started(row_of(task("ink"), task("pens", tries)))
            self.work(house, "ink")
            for _ in range(tries):
                self.status(house, 1, "running")
                number, fence = house.claim("root", "pens")
                house.fail("root", number, fence)
                if house.instance(1)[4] == "running":
                    later(house, 16)
            self.status(house, 1, "undoing")
            self.assertEqual(house.log()[-1][1], "fail")
            self.assertEqual(sum(row[1:] == ("claim", "root", "pens") for row in house.log()), tries)
            self.tasks(house, (3, 1, "a", "bin", house.now(), 0, "ready", None, 0, 0))

    def test_a_lapse_counts_as_a_failure(self):
        house = started(choice_of(task("pens", 3, 2)))
        house.claim("root", "pens")
        later(house, 2)
        self.tasks(house, (1, 1, "a", "pens", 0, 2, "resting", None, 0, 3))
        later(house, 1)
        house.claim("root", "pens")
        house.fail("root", 1, 2)
        self.tasks(house, (1, 1, "a", "pens", 0, 1, "resting", None, 0, 5))

    def test_a_new_task_has_all_tries(self):
        house = started(LETTER)
        house.claim("root", "pens")
        house.fail("root", 1, 1)
        later(house, 1)
        self.work(house, "pens")
        house.choose("root", 1, "again")
        self.assertEqual(house.tasks()[0][5], 2)
        house.claim("root", "pens")
        house.fail("root", 2, 3)
        self.assertEqual(house.tasks()[0][9], house.now() + 1)


class NumbersTest(HouseChecks):

    def test_numbers_go_on(self):
        net = (6, (step("split", ("plain",), [0], [2, 3]), step("a", task(), [2], [4]), step("b", task("ink"), [3], [5]),
                   step("back", CHOICE, [4, 5], [0]), step("end", CHOICE, [4, 5], [1])))
        house = many(2, net)
        self.assertEqual([row[0] for row in house.tasks()], [1, 2, 3, 4])
        for queue in ("pens", "ink", "ink"):
            self.work(house, queue)
        house.choose("root", 1, "back")
        self.assertEqual([row[:3] for row in house.tasks()], [(3, 2, "a"), (5, 1, "a"), (6, 1, "b")])


if __name__ == "__main__":
    unittest.main()
