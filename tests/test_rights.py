"""Points [50], [51] and [66], and promise [16]: the beginning, rights, listings."""

import unittest

from house_checks import NO_WORDS, HouseChecks, house_of, started, task, view
from samples import LETTER

from wholeflow.errors import BadValue, NoFlow, NoRight
from wholeflow.houses import House

ACTS = ("start", "steer", "see", "work")
NO_ACTS = NO_WORDS + ("grant", "publish", "claim", "starts", "Start")


class BeginningTest(HouseChecks):

    def test_an_empty_house(self):
        house = House()
        self.assertEqual((house.log(), house.now(), house.rights(), house.flows(), house.queues()), ((), 0, (), (), ()))
        self.assertEqual((house.instances(), house.waits(), house.tasks()), ((), (), ()))
        self.assertEqual(house.listing("root", None, None), ())
        self.refused(house, NoFlow, "letter", "net", "letter", 1)

    def test_houses_share_nothing(self):
        one, other = House(), House()
        one.publish("root", "letter", LETTER)
        one.start("root", "letter", 0)
        one.grant("root", "ann", "see", "letter")
        one.queue("root", "pens", 1, 1, 1)
        one.clock(1)
        self.assertEqual(view(other), view(House()))

    def test_the_log(self):
        house = House()
        house.publish("root", "letter", LETTER)
        house.grant("root", "ann", "start", "letter")
        house.start("ann", "letter", 2)
        house.clock(3)
        house.clock(7)
        house.cancel("root", 1)
        self.assertEqual(house.log(), (
            (0, "publish", "root", "letter", LETTER), (0, "grant", "root", "ann", "start", "letter"),
            (0, "start", "ann", "letter", 2), (0, "clock", 3), (3, "clock", 7), (7, "cancel", "root", 1)))
        self.assertEqual(house.now(), 7)
        self.assertEqual({type(row) for row in house.log()} | {type(house.log())}, {tuple})

    def test_questions_and_refused_calls_add_no_row(self):
        house = started(LETTER)
        log = house.log()
        view(house)
        house.listing("ann", "letter", None)
        self.assertIsNone(house.claim("ann", "pens"))
        self.assertIsNone(house.claim("root", "ink"))
        self.refused(house, BadValue, 0, "clock", 0)
        self.assertEqual(house.log(), log)


class GrantTest(HouseChecks):

    def test_granted_and_revoked(self):
        house = House()
        self.assertIsNone(self.taken(house, "grant", "root", "bob", "see", "letter"))
        self.assertIsNone(self.taken(house, "grant", "root", "ann", "work", "letter"))
        self.assertIsNone(self.taken(house, "grant", "root", "ann", "work", "form"))
        rights = (("ann", "work", "form"), ("ann", "work", "letter"), ("bob", "see", "letter"))
        self.assertEqual(house.rights(), rights)
        self.assertIsNone(self.taken(house, "revoke", "root", "ann", "work", "letter"))
        self.assertEqual(house.rights(), (rights[0], rights[2]))

    def test_there_already_or_not_there(self):
        house = House()
        self.taken(house, "revoke", "root", "ann", "see", "letter")
        self.assertEqual(house.rights(), ())
        self.taken(house, "grant", "root", "ann", "see", "letter")
        self.taken(house, "grant", "root", "ann", "see", "letter")
        self.assertEqual(house.rights(), (("ann", "see", "letter"),))
        self.taken(house, "revoke", "root", "ann", "see", "letter")
        self.assertEqual(house.rights(), ())

    def test_rights_of_root(self):
        house = started(LETTER)
        house.grant("root", "root", "see", "letter")
        house.grant("root", "root", "start", "letter")
        self.assertEqual(house.rights(), (("root", "see", "letter"), ("root", "start", "letter")))
        house.revoke("root", "root", "start", "letter")
        self.assertEqual(house.rights(), (("root", "see", "letter"),))
        self.assertEqual(house.start("root", "letter", 0), 2)

    def test_each_act_and_any_flow(self):
        house = House()
        for act in ACTS:
            self.taken(house, "grant", "root", "ann", act, "abcdefgh")
        self.assertEqual(house.rights(), tuple(("ann", act, "abcdefgh") for act in sorted(ACTS)))

    def test_arguments_by_name(self):
        house = House()
        house.grant(flow="letter", act="see", person="ann", who="root")
        self.assertEqual(house.log(), ((0, "grant", "root", "ann", "see", "letter"),))
        house.revoke(flow="letter", act="see", person="ann", who="root")
        self.assertEqual(house.rights(), ())

    def test_only_root(self):
        house = House()
        for act in ACTS:
            house.grant("root", "ann", act, "letter")
        for name in ("grant", "revoke"):
            for who in ("ann", "bob", "roots"):
                self.refused(house, NoRight, "grant", name, who, "ann", "see", "letter")

    def test_wrong_arguments_in_their_order(self):
        house = House()
        house.grant("root", "ann", "see", "letter")
        for name in ("grant", "revoke"):
            for value in NO_WORDS:
                self.refused(house, BadValue, 0, name, value, value, value, value)
                self.refused(house, BadValue, 1, name, "ann", value, "none", value)
                self.refused(house, BadValue, 3, name, "ann", "ann", "see", value)
            for value in NO_ACTS:
                self.refused(house, BadValue, 2, name, "ann", "ann", value, None)
                self.refused(house, BadValue, 2, name, "root", "ann", value, "letter")


class LackingRightsTest(HouseChecks):

    def test_start(self):
        house = house_of(LETTER)
        house.publish("root", "form", LETTER)
        self.refused(house, NoRight, "start", "start", "ann", "letter", 0)
        for act in ("steer", "see", "work"):
            house.grant("root", "ann", act, "letter")
        house.grant("root", "ann", "start", "form")
        house.grant("root", "bob", "start", "letter")
        self.refused(house, NoRight, "start", "start", "ann", "letter", 0)
        house.grant("root", "ann", "start", "letter")
        self.assertEqual(house.start("ann", "letter", 0), 1)
        house.revoke("root", "ann", "start", "letter")
        self.refused(house, NoRight, "start", "start", "ann", "letter", 0)

    def test_steer(self):
        house = started(LETTER)
        calls = (("cancel", 1), ("choose", 1, "check"), ("signal", 1, "go"), ("move", 1, 1))
        for act in ("start", "see", "work"):
            house.grant("root", "ann", act, "letter")
        house.grant("root", "ann", "steer", "form")
        house.grant("root", "bob", "steer", "letter")
        for name, *arguments in calls:
            self.refused(house, NoRight, "steer", name, "ann", *arguments)
        house.grant("root", "ann", "steer", "letter")
        self.assertIsNone(house.signal("ann", 1, "go"))
        self.assertIsNone(house.move("ann", 1, 1))
        self.assertIsNone(house.cancel("ann", 1))

    def test_the_owner_has_no_right_to_steer_by_that(self):
        house = house_of(LETTER)
        house.grant("root", "ann", "start", "letter")
        house.start("ann", "letter", 0)
        self.refused(house, NoRight, "steer", "cancel", "ann", 1)
        self.assertIsNone(house.claim("ann", "pens"))

    def test_work(self):
        house = started(LETTER)
        for act in ("start", "see", "steer"):
            house.grant("root", "ann", act, "letter")
        house.grant("root", "ann", "work", "form")
        house.grant("root", "bob", "work", "letter")
        before = view(house)
        self.assertIsNone(house.claim("ann", "pens"))
        self.assertEqual(view(house), before)
        house.grant("root", "ann", "work", "letter")
        self.assertEqual(house.claim("ann", "pens"), (1, 1))

    def test_a_right_taken_away_between_a_claim_and_its_done(self):
        house = started(LETTER)
        house.grant("root", "ann", "work", "letter")
        house.claim("ann", "pens")
        house.revoke("root", "ann", "work", "letter")
        house.beat("ann", 1, 1)
        house.done("ann", 1, 1)
        self.steps_taken(house, 1, "write")

    def test_only_tasks_of_flows_for_which_the_worker_has_the_right(self):
        house = house_of(LETTER)
        house.publish("root", "form", LETTER)
        house.start("root", "form", 3)
        house.start("root", "letter", 0)
        house.grant("root", "ann", "work", "letter")
        self.assertEqual(house.claim("ann", "pens"), (2, 1))
        self.assertIsNone(house.claim("ann", "pens"))
        self.assertEqual(house.claim("root", "pens"), (1, 2))


class ListingTest(HouseChecks):

    def house(self):
        """Instances of two flows and all four statuses, with two owners."""
        house = house_of((LETTER[0], LETTER[1]))
        house.publish("root", "form", (2, (("a", task(), (0,), (1,)),)))
        for person in ("ann", "bob"):
            house.grant("root", person, "start", "letter")
            house.grant("root", person, "start", "form")
        for who, flow in (("ann", "letter"), ("bob", "letter"), ("ann", "form"), ("bob", "form"), ("root", "letter")):
            house.start(who, flow, 0)
        self.work(house, "pens")
        house.cancel("root", 1)
        house.cancel("root", 2)
        for number in (3, 4):
            found, fence = house.claim("root", "pens")
            self.assertEqual(found, number)
        house.done("root", 4, 3)
        return house

    def test_root_sees_all(self):
        house = self.house()
        self.assertEqual([house.instance(number)[4] for number in house.instances()],
                         ["undoing", "undone", "running", "ended", "running"])
        self.assertEqual(house.listing("root", None, None), (1, 2, 3, 4, 5))
        self.assertEqual(house.listing("root", "letter", None), (1, 2, 5))
        self.assertEqual(house.listing("root", "form", None), (3, 4))
        self.assertEqual(house.listing("root", None, "running"), (3, 5))
        self.assertEqual(house.listing("root", None, "ended"), (4,))
        self.assertEqual(house.listing("root", None, "undoing"), (1,))
        self.assertEqual(house.listing("root", None, "undone"), (2,))
        self.assertEqual(house.listing("root", "letter", "running"), (5,))
        self.assertEqual(house.listing("root", "form", "undone"), ())
        self.assertEqual(house.listing("root", "none", None), ())

    def test_owners_see_their_own(self):
        house = self.house()
        self.assertEqual(house.listing("ann", None, None), (1, 3))
        self.assertEqual(house.listing("bob", None, None), (2, 4))
        self.assertEqual(house.listing("bob", "form", "ended"), (4,))
        self.assertEqual(house.listing("bob", "form", "running"), ())
        self.assertEqual(house.listing("cy", None, None), ())

    def test_the_right_to_see(self):
        house = self.house()
        for act in ("start", "steer", "work"):
            house.grant("root", "cy", act, "letter")
        self.assertEqual(house.listing("cy", None, None), ())
        house.grant("root", "cy", "see", "letter")
        self.assertEqual(house.listing("cy", None, None), (1, 2, 5))
        self.assertEqual(house.listing("cy", "form", None), ())
        house.grant("root", "ann", "see", "letter")
        self.assertEqual(house.listing("ann", None, None), (1, 2, 3, 5))
        house.revoke("root", "ann", "see", "letter")
        self.assertEqual(house.listing("ann", None, None), (1, 3))

    def test_arguments_by_name(self):
        self.assertEqual(self.house().listing(status="ended", flow="form", who="bob"), (4,))

    def test_wrong_arguments_in_their_order(self):
        house = self.house()
        for value in NO_WORDS:
            self.refused(house, BadValue, 0, "listing", value, value, value)
            if value is not None:
                self.refused(house, BadValue, 1, "listing", "ann", value, "none")
                self.refused(house, BadValue, 2, "listing", "ann", None, value)
        for value in ("ready", "Running", "end", ("running",), ["running"]):
            self.refused(house, BadValue, 2, "listing", "ann", "letter", value)


if __name__ == "__main__":
    unittest.main()
