"""Point [67], and promise [17]: houses built again from their rows."""

import copy
import unittest

from house_checks import NO_WORDS, HouseChecks, later, started, task, view
from samples import LEAVES, LETTER, NO_SEQUENCES, ROW, SIDES, as_lists, is_plain, mixed

from wholeflow.errors import BadRow, FlowError
from wholeflow.houses import House, rebuild

ROWS = (
    (0, "publish", "root", "letter", LETTER),
    (0, "publish", "root", "row", ROW),
    (0, "queue", "root", "pens", 2, 1, 3),
    (0, "grant", "root", "ann", "work", "letter"),
    (0, "grant", "root", "ann", "start", "row"),
    (0, "start", "root", "letter", 1),
    (0, "start", "ann", "row", 0),
    (0, "clock", 2),
    (2, "claim", "ann", "pens"),
    (2, "beat", "ann", 1, 1),
    (2, "done", "ann", 1, 1),
    (2, "choose", "root", 1, "again"),
    (2, "move", "root", 2, 1),
    (2, "signal", "root", 2, "go"),
    (2, "clock", 5),
    (5, "claim", "ann", "pens"),
    (5, "fail", "ann", 3, 2),
    (5, "revoke", "root", "ann", "start", "row"),
    (5, "cancel", "root", 1),
    (5, "claim", "ann", "bin"),
    (5, "done", "ann", 5, 3),
)


class CaseOfRebuilding(HouseChecks):

    def fails(self, rows, at):
        before = copy.deepcopy(rows)
        with self.assertRaises(BadRow) as caught:
            rebuild(rows)
        self.assertEqual(caught.exception.at, at, rows)
        self.assertEqual(rows, before)

    def with_row(self, at, row):
        return ROWS[:at] + (row,) + ROWS[at + 1:]


class RebuildTest(CaseOfRebuilding):

    def test_the_log(self):
        house = rebuild(ROWS)
        self.assertIs(type(house), House)
        self.assertEqual(house.log(), ROWS)
        self.assertEqual([house.instance(number)[4] for number in (1, 2)], ["undone", "running"])
        again = rebuild(rows=house.log())
        self.assertTrue(again == house)
        self.assertEqual(view(again), view(house))

    def test_its_beginnings(self):
        for many in range(len(ROWS) + 1):
            house = House()
            for _, name, *arguments in ROWS[:many]:
                getattr(house, name)(*arguments)
            self.assertEqual(view(rebuild(ROWS[:many])), view(house))
            self.assertEqual(rebuild(ROWS[:many]).log(), ROWS[:many])

    def test_no_rows(self):
        for rows in ((), []):
            self.assertEqual(view(rebuild(rows)), view(House()))

    def test_lists(self):
        for rows in (as_lists(ROWS), mixed(ROWS), [list(row) for row in ROWS]):
            before = copy.deepcopy(rows)
            house = rebuild(rows)
            self.assertEqual(rows, before)
            self.assertEqual(house.log(), ROWS)
            self.assertTrue(is_plain(house.log()))

    def test_later_changes_have_no_effect(self):
        rows = as_lists(ROWS)
        house = rebuild(rows)
        rows[0][4][1][0][2].append(2)
        rows[3][2] = "bob"
        del rows[5:]
        self.assertEqual(view(house), view(rebuild(ROWS)))

    def test_both_go_on_alike(self):
        house, again = rebuild(ROWS), rebuild(ROWS)
        later(house, 1)
        self.assertEqual(view(again), view(rebuild(ROWS)))
        again.clock(6)
        self.assertEqual(view(again), view(house))
        self.assertEqual(again.start("root", "letter", 0), house.start("root", "letter", 0))
        self.assertEqual(again.claim("root", "pens"), house.claim("root", "pens"))
        self.assertEqual(view(again), view(house))

    def test_long_logs(self):
        house = started(LETTER)
        for _ in range(400):
            self.work(house, "pens")
            house.choose("root", 1, "again")
            later(house, 1)
        again = rebuild(house.log())
        self.assertEqual(len(again.log()), 1602)
        self.assertEqual(view(again), view(house))


class WrongRowsTest(CaseOfRebuilding):

    def test_no_sequence(self):
        for value in NO_SEQUENCES:
            self.fails(value, 0)

    def test_other_forms(self):
        for at, row in enumerate(ROWS):
            others = NO_SEQUENCES + ((), [], row[:1], row[:2], row[:-1], row + (None,), row + row[-1:], (row,), row[1:],
                                     row[:2] + (row[2:],), (row[0], None) + row[2:], (row[0], "log"),
                                     (row[0], "copy"), (row[0], "kept"), (row[0], [row[1]]) + row[2:],
                                     (row[0], (row[1],)) + row[2:], (row[0], row[1].upper()) + row[2:],
                                     (row[0], row[1] + "s") + row[2:], (row[0], True) + row[2:], row[::-1])
            for other in others:
                self.fails(self.with_row(at, other), at)
                self.fails(list(self.with_row(at, other)), at)

    def test_other_ticks(self):
        for at, row in enumerate(ROWS):
            for tick in (row[0] + 1, row[0] - 1, None, True, False, str(row[0]), (row[0],), [], 10 ** 30, -10 ** 30):
                self.fails(self.with_row(at, (tick,) + row[1:]), at)
        rows = ((0, "clock", 1), (1, "clock", 2))
        self.assertEqual(rebuild(rows).now(), 2)
        for row in ((True, "clock", 2), (0, "clock", 2), (2, "clock", 3), (1, "clock", 1), (1, "clock", True)):
            self.fails((rows[0], row), 1)
        self.fails(((False, "clock", 1),), 0)

    def test_changed_arguments(self):
        wrong = 0
        for at, row in enumerate(ROWS):
            for place in range(2, len(row)):
                for value in NO_WORDS + (-1, 2, 9, "none", "ann", "root", LEAVES, (2, ())):
                    wrong += self.same_as_tried(self.with_row(at, row[:place] + (value,) + row[place + 1:]))
        self.assertGreater(wrong, 1200)

    def test_each_error(self):
        ahead = ROWS[:7]
        for row in ((0, "grant", "ann", "ann", "see", "letter"), (0, "revoke", "ann", "ann", "see", "letter"),
                    (0, "publish", "ann", "letter", LETTER), (0, "publish", "root", "letter", LEAVES),
                    (0, "queue", "ann", "pens", 1, 1, 1), (0, "start", "root", "none", 0), (0, "start", "ann", "letter", 0),
                    (0, "done", "root", 1, 1), (0, "fail", "root", 1, 1), (0, "beat", "root", 1, 1), (0, "clock", 0),
                    (0, "clock", 1001), (0, "cancel", "root", 3), (0, "cancel", "ann", 1), (0, "choose", "root", 1, "check"),
                    (0, "signal", "ann", 1, "go"), (0, "move", "root", 1, 2), (0, "listing", "root", None, None)):
            self.fails(ahead + (row,), 7)
            self.fails(ahead + (row, None), 7)
        many = ahead[:6] + tuple((0, "start", "root", "letter", 0) for _ in range(7))
        self.assertEqual(len(rebuild(many).instances()), 8)
        self.fails(many + ((0, "start", "root", "letter", 0),), 13)

    def test_a_claim_that_would_return_none(self):
        for at, row in ((8, (2, "claim", "bob", "pens")), (8, (2, "claim", "ann", "ink")), (9, ROWS[8]),
                        (11, (2, "claim", "ann", "pens"))):
            self.fails(ROWS[:at] + (row,) + ROWS[at:], at)
        # The rate of one in three ticks is spent at tick 2.
        self.fails(ROWS[:14] + ((2, "claim", "ann", "pens"),), 14)
        self.fails(ROWS[:14] + ((2, "clock", 4), (4, "claim", "ann", "pens")), 15)

    def test_rows_left_out(self):
        for lost, at in ((0, 4), (1, 5), (3, 7), (4, 5), (5, 7), (6, 11), (7, 7), (8, 8), (10, 10), (11, 14), (12, 19),
                         (14, 14), (15, 15), (18, 18), (19, 19)):
            rows = ROWS[:lost] + ROWS[lost + 1:]
            self.assertEqual(self.first_wrong(rows), at)
            self.fails(rows, at)
        for lost in (2, 9, 13, 16, 17, 20):
            rows = ROWS[:lost] + ROWS[lost + 1:]
            self.assertEqual(rebuild(rows).log(), rows)

    def first_wrong(self, rows):
        """The first row that a house does not take, tried one by one."""
        house = House()
        for at, (tick, name, *arguments) in enumerate(rows):
            many = len(house.log())
            try:
                if tick != house.now():
                    return at
                getattr(house, name)(*arguments)
            except FlowError:
                return at
            if len(house.log()) == many:
                return at
        return None

    def test_rows_exchanged_and_put_in(self):
        wrong = 0
        for one in range(len(ROWS)):
            for other in range(one):
                rows = list(ROWS)
                rows[one], rows[other] = rows[other], rows[one]
                wrong += self.same_as_tried(rows)
                wrong += self.same_as_tried(ROWS[:one] + ROWS[other:other + 1] + ROWS[one:])
        self.assertGreater(wrong, 250)

    def same_as_tried(self, rows):
        at = self.first_wrong(rows)
        if at is None:
            self.assertEqual(rebuild(rows).log(), tuple(rows))
            return 0
        self.fails(rows, at)
        return 1

    def test_the_first_of_several(self):
        self.fails(ROWS[:3] + (None, ()) + ROWS[3:], 3)
        self.fails((None,) + ROWS, 0)
        self.fails(ROWS + (None,), len(ROWS))

    def test_large_values(self):
        deep = ()
        for _ in range(18):
            deep = [deep]
        self.fails(deep, 0)
        self.fails([deep], 0)
        self.fails([None] * 19000, 0)
        self.fails(ROWS[:2] + ((0,) * 15000,), 2)
        self.fails(ROWS[:2] + ((0, "grant") + ("root",) * 15000,), 2)


class SmallTest(CaseOfRebuilding):

    def test_true_is_not_one(self):
        rows = ((0, "publish", "root", "letter", SIDES), (0, "start", "root", "letter", 0),
                (0, "claim", "root", "pens"), (0, "done", "root", 1, 1))
        self.assertEqual(rebuild(rows).instance(1)[6], ("split", "left"))
        for at, row in ((1, (0, "start", "root", "letter", False)), (3, (0, "done", "root", True, 1)),
                        (3, (0, "done", "root", 1, True))):
            self.fails(rows[:at] + (row,), at)

    def test_a_task_of_queue_set(self):
        house = started((2, (("a", task("pens", 1, 5, None), (0,), (1,)),)))
        house.queue("root", "pens", 1000, 10, 1000)
        house.claim("root", "pens")
        later(house, 5)
        self.assertEqual(view(rebuild(house.log())), view(house))


if __name__ == "__main__":
    unittest.main()
