import unittest

from farfacts import link
from farfacts.databases import Database
from farfacts.errors import HouseFull, NoLetter, NoSession, NotOpen, PowerCut
from farfacts.link import Link
from helpers import RESOURCE, YES, Case, entity, number, op, truth
from worlds import ANY, BOB, BOSS, OPEN, OWNER, PLAN, POLICIES, REQUEST

STAFF, IS_BOB, IS_ANN = ("above", ("group:staff",)), ("value", entity("user:bob")), ("value", entity("user:ann"))
YES_TOLD, NO_TOLD = ("value", truth(True)), ("value", truth(False))
SHOWN, HIDDEN = (True, ("shown",), ()), (False, (), ())
CLOSE = [("set", "doc:plan", "open", truth(False))]


def wide(name, numbers):
    """A policy that looks at many attributes of the resource."""
    parts = [op("has", RESOURCE, "n" + str(n)) for n in numbers]
    whole = parts[0]
    for part in parts[1:]:
        whole = op("or", whole, part)
    return (name, "permit", ANY, None, ANY, whole)


WIDE = [wide("w" + str(n), range(13 * n, 13 * n + 13)) for n in range(4)]


class LinkTest(Case):
    def link(self, policies=POLICIES, many=2, modes=("lazy", "batch"), blocks=60):
        made = Link(Database(PLAN), policies, many, blocks)
        for desk in range(many):
            for mode in modes:
                made.begin(desk, REQUEST, mode)
        return made

    def deliver_all(self, made):
        while made.letters():
            made.deliver(0)

    def settle(self, made, desk, session):
        """Asks until there is nothing more to ask for."""
        while made.send(desk, session):
            self.deliver_all(made)

    def test_making(self):
        self.exactly(link.DESKS_MOST, 3)
        for many in (1, 2, 3):
            base = Database(PLAN)
            made = Link(base, POLICIES, many, 60)
            self.exactly((made.letters(), made.is_open(), made.house_version()), ([], True, (0, 0)))
            self.assertTrue(made.database(0).same(base))
            for desk in range(many):
                self.exactly(made.begin(desk, REQUEST, "lazy"), 0)
            self.out_of_range("desk", made.begin, many, REQUEST, "lazy")

    def test_bounds(self):
        for many in (-1, 0, 4, 5):
            self.out_of_range("desks", Link, Database(PLAN), POLICIES, many, 60)
            self.out_of_range("desks", Link, Database(PLAN), POLICIES, many, 7)
        great = Database([("e:" + str(100 + n), (), ()) for n in range(40)])
        for blocks in (-1, 0, 7, 401):
            self.out_of_range("blocks", Link, great, POLICIES, 1, blocks)
        for blocks in (8, 81):
            self.assertRaises(HouseFull, Link, great, POLICIES, 3, blocks)
        for blocks in (82, 400):
            self.exactly(Link(great, [], 3, blocks).house_version(), (0, 0))
        self.exactly(Link(Database([]), [], 1, 8).house_version(), (0, 0))

    def test_desks_and_sessions_that_are_not_there(self):
        made = self.link()
        for desk in (-1, -2, 2, 3, 100):
            self.out_of_range("desk", made.begin, desk, ("bob",) + REQUEST[1:], "quick")
            for session in (0, 1, 2, -1):
                for call in (made.send, made.renew, made.told, made.paper):
                    self.out_of_range("desk", call, desk, session)
                self.out_of_range("desk", made.told_at, desk, session, -1)
        for session in (-1, 2, 20):
            for call in (made.send, made.renew, made.told, made.paper):
                self.assertRaises(NoSession, call, 1, session)
            self.assertRaises(NoSession, made.told_at, 1, session, -1)
        self.out_of_range("version", made.told_at, 1, 1, -1)
        self.out_of_range("version", made.told_at, 0, 0, 100001)
        self.exactly(made.letters(), [])

    def test_begin(self):
        made = self.link(modes=())
        self.out_of_range("principal", made.begin, 0, ("bob",) + REQUEST[1:], "quick")
        self.out_of_range("mode", made.begin, 0, REQUEST, "quick")
        for session in range(20):
            self.exactly(made.begin(1, REQUEST, "lazy"), session)
        self.out_of_range("sessions", made.begin, 1, REQUEST, "lazy")
        self.out_of_range("mode", made.begin, 1, REQUEST, "quick")
        self.exactly(made.begin(0, REQUEST, "batch"), 0)

    def test_letters_that_are_not_there(self):
        made = self.link()
        for many in range(3):
            for letter in (-1, -2, many, many + 1, 99):
                for call in (made.drop, made.duplicate, made.deliver):
                    self.assertRaises(NoLetter, call, letter)
            self.exactly(len(made.letters()), many)
            made.send(0, 0)
        made.cut_power([])
        self.assertRaises(NoLetter, made.deliver, 3)
        self.assertRaises(NotOpen, made.deliver, 2)

    def test_send(self):
        made = self.link()
        self.exactly((made.send(0, 0), made.send(1, 1), made.send(0, 1), made.send(0, 0)), (1, 3, 3, 1))
        self.exactly(made.letters(), [("asks", 0, (BOB,)), ("asks", 1, (OWNER, OPEN, BOB)), ("asks", 0, (OWNER, OPEN, BOB)),
                                      ("asks", 0, (BOB,))])
        given = made.letters()
        given.append(7)
        given[0] = 8
        self.exactly((len(made.letters()), made.letters()[0]), (4, ("asks", 0, (BOB,))))

    def test_send_nothing(self):
        made = self.link([("p", "permit", ANY, None, ANY, YES)])
        for session in (0, 1):
            self.exactly((made.send(0, session), made.renew(0, session)), (0, 0))
        self.exactly((made.letters(), made.told(0, 0)), ([], ((True, ("p",), ()), 0, 100000)))
        made = self.link()
        self.settle(made, 0, 1)
        self.exactly((made.send(0, 0), made.send(0, 1), made.letters()), (0, 0, []))

    def test_send_many(self):
        made = self.link(WIDE)
        reads = tuple(("attribute", "doc:plan", "n" + str(n)) for n in range(52))
        self.exactly(made.send(0, 1), 40)
        self.exactly(made.letters(), [("asks", 0, reads[:40])])
        self.exactly((made.deliver(0), made.deliver(0)), (40, 40))
        self.exactly(made.send(0, 1), 12)
        self.exactly(made.letters(), [("asks", 0, reads[40:])])
        self.deliver_all(made)
        self.exactly((made.send(0, 1), made.told(0, 1)), (0, (HIDDEN, 0, 0)))
        # Renewing begins with the first reads, too.
        self.exactly(made.renew(0, 0), 40)
        self.exactly(made.letters(), [("asks", 0, reads[:40])])

    def test_deliver(self):
        made = self.link()
        made.send(0, 0)
        made.send(1, 1)
        self.exactly(made.deliver(1), 3)
        facts = ((OWNER, IS_BOB, 0, 0), (OPEN, YES_TOLD, 0, 0), (BOB, STAFF, 0, 0))
        self.exactly(made.letters(), [("asks", 0, (BOB,)), ("facts", 1, facts)])
        self.exactly(made.deliver(0), 1)
        self.exactly(made.letters(), [("facts", 1, facts), ("facts", 0, facts[2:])])
        self.exactly(made.deliver(0), 3)
        self.exactly(made.letters(), [("facts", 0, facts[2:])])
        self.exactly((made.send(1, 0), made.send(1, 1), made.send(0, 0)), (1, 1, 1))
        self.exactly(made.letters()[1:], [("asks", 1, (BOSS,)), ("asks", 1, (BOSS,)), ("asks", 0, (BOB,))])
        self.exactly(made.deliver(0), 1)
        self.exactly((made.send(0, 0), made.letters()[-1]), (1, ("asks", 0, (OWNER,))))

    def test_round_after_round(self):
        for session, many in ((0, 4), (1, 2)):
            made = self.link()
            rounds = 0
            while made.send(1, session):
                self.deliver_all(made)
                rounds += 1
            self.exactly((rounds, made.told(1, session), made.told(0, session)), (many, (SHOWN, 0, 0), None))
            self.exactly(made.told_at(1, session, 0), (SHOWN, 0, 0))
            self.exactly(made.told_at(1, session, 1), None)
            self.exactly(made.paper(1, session), ((BOB, STAFF), (OWNER, IS_BOB), (BOSS, IS_ANN), (OPEN, YES_TOLD)))
            self.exactly(made.paper(0, session), None)

    def test_letters_of_facts_late_and_twice(self):
        made = self.link()
        made.send(0, 1)
        made.duplicate(0)
        self.exactly(made.letters(), [("asks", 0, (OWNER, OPEN, BOB))] * 2)
        made.deliver(0)
        self.exactly(made.commit(CLOSE), 1)
        made.sync()
        made.deliver(0)
        old, new = made.letters()
        self.exactly(old, ("facts", 0, ((OWNER, IS_BOB, 0, 0), (OPEN, YES_TOLD, 0, 0), (BOB, STAFF, 0, 0))))
        self.exactly(new, ("facts", 0, ((OWNER, IS_BOB, 0, 1), (OPEN, NO_TOLD, 1, 1), (BOB, STAFF, 0, 1))))
        made.duplicate(0)
        self.exactly(made.letters(), [old, new, old])
        # The newer one first, then the older one, which is new in part, then the same once more.
        self.exactly((made.deliver(1), made.deliver(0), made.deliver(0), made.letters()), (3, 1, 0, []))
        self.settle(made, 0, 1)
        self.exactly((made.told(0, 1), made.told_at(0, 1, 0), made.told_at(0, 1, 1)),
                     ((HIDDEN, 1, 1), (SHOWN, 0, 0), (HIDDEN, 1, 1)))

    def test_drop_and_duplicate(self):
        made = self.link()
        for session in (0, 1, 0):
            made.send(1, session)
        one, two, _ = made.letters()
        self.exactly(made.duplicate(1), None)
        self.exactly(made.letters(), [one, two, one, two])
        self.exactly(made.drop(0), None)
        self.exactly(made.letters(), [two, one, two])
        self.exactly(made.drop(2), None)
        self.exactly(made.letters(), [two, one])
        made.drop(0)
        made.drop(0)
        self.exactly(made.letters(), [])
        self.assertRaises(NoLetter, made.drop, 0)

    def test_renew(self):
        made = self.link()
        self.exactly((made.renew(0, 0), made.letters()), (0, []))
        self.settle(made, 0, 1)
        self.exactly(made.renew(0, 1), 4)
        self.exactly(made.letters(), [("asks", 0, (BOB, OWNER, BOSS, OPEN))])
        made.commit([("make", "user:cid", ())])
        made.commit([("drop", "user:cid")])
        self.exactly(made.told(0, 1), (SHOWN, 0, 0))
        made.sync()
        made.commit(CLOSE)
        self.deliver_all(made)
        self.exactly((made.told(0, 0), made.told(0, 1)), ((SHOWN, 0, 2),) * 2)
        made.sync()
        made.renew(0, 0)
        self.deliver_all(made)
        self.exactly((made.told(0, 0), made.told_at(0, 0, 1)), ((HIDDEN, 3, 3), (SHOWN, 0, 2)))

    def test_only_what_is_synced_is_told(self):
        made = self.link()
        made.commit(CLOSE)
        self.settle(made, 0, 1)
        self.exactly((made.told(0, 1), made.house_version()), ((SHOWN, 0, 0), (0, 1)))
        self.exactly(made.compact(), 1)
        made.renew(0, 1)
        self.deliver_all(made)
        self.exactly((made.told(0, 1), made.house_version()), ((HIDDEN, 1, 1), (1, 1)))

    def test_the_house(self):
        made = self.link()
        changes = list(CLOSE)
        self.exactly(made.commit(changes), 1)
        self.exactly(changes, CLOSE)
        self.exactly((made.house_version(), made.sync(), made.house_version()), ((0, 1), 1, (1, 1)))
        self.exactly((made.commit([("drop", "doc:plan")]), made.house_version()), (2, (1, 2)))
        for version, wanted in ((0, PLAN), (1, None), (2, PLAN[:1])):
            if wanted is not None:
                self.assertTrue(made.database(version).same(Database(wanted)))
        self.exactly(made.database(1).attribute("doc:plan", "open"), truth(False))
        for version in (-1, 3):
            self.out_of_range("version", made.database, version)
        self.out_of_range("changes", made.commit, [])
        self.refused(0, "no such entity", made.commit, [("drop", "doc:plan")])
        self.exactly((made.compact(), made.house_version()), (2, (2, 2)))
        self.out_of_range("version", made.database, 1)
        made = Link(Database([]), [], 1, 8)
        for sign in "abc":
            made.commit([("make", "e:" + sign, ())])
        self.assertRaises(HouseFull, made.commit, [("make", "e:d", ())])
        made.compact()
        self.assertRaises(HouseFull, made.commit, [("make", "e:d", ())])

    def check_closed(self, made):
        self.exactly(made.is_open(), False)
        for call in (lambda: made.commit(CLOSE), lambda: made.commit([]), made.sync, made.compact, made.house_version,
                     lambda: made.database(0), lambda: made.database(99)):
            self.assertRaises(NotOpen, call)

    def test_a_cut(self):
        made = self.link()
        self.settle(made, 0, 0)
        made.commit(CLOSE)
        made.send(1, 1)
        made.deliver(0)
        made.renew(0, 0)
        before = made.letters()
        self.exactly([letter[:2] for letter in before], [("facts", 1), ("asks", 0)])
        self.exactly(made.cut_power([]), None)
        self.check_closed(made)
        # Letters and desks remain; the house alone does not answer.
        self.assertRaises(NotOpen, made.deliver, 1)
        self.exactly(made.letters(), before)
        self.exactly((made.told(0, 0), made.begin(0, REQUEST, "lazy")), ((SHOWN, 0, 0), 2))
        self.exactly((made.deliver(0), made.letters()), (3, before[1:]))
        self.exactly((made.send(1, 1), len(made.letters())), (1, 2))
        made.duplicate(1)
        made.drop(1)
        self.check_closed(made)
        self.exactly(made.reopen(), 0)
        self.exactly((made.is_open(), made.house_version()), (True, (0, 0)))
        self.exactly((made.deliver(0), made.deliver(0)), (4, 1))
        self.deliver_all(made)
        self.exactly((made.told(0, 0), made.told(1, 1)), ((SHOWN, 0, 0),) * 2)
        # The version that was lost is made again, and tells something else.
        self.exactly(made.commit([("drop", "doc:plan")]), 1)
        made.sync()
        made.renew(1, 1)
        self.deliver_all(made)
        # Since nothing of the owner of what is gone is read, this is decided at once.
        self.exactly(made.told(1, 1), ((False, (), (("staff", "no entity"), ("shown", "no entity"))), 1, 1))

    def test_reopen(self):
        made = self.link()
        made.commit(CLOSE)
        self.exactly((made.is_open(), made.reopen(), made.house_version()), (True, 1, (1, 1)))
        made.commit(CLOSE)
        made.cut_power([32])
        self.exactly((made.reopen(), made.house_version()), (2, (2, 2)))
        made.commit(CLOSE)
        made.cut_power([31])
        self.exactly((made.reopen(), made.house_version()), (2, (2, 2)))
        made.compact()
        self.exactly((made.reopen(), made.reopen()), (2, 2))

    def test_a_scheduled_cut(self):
        made = self.link()
        self.exactly(made.schedule_cut(2, [32]), None)
        made.commit(CLOSE)
        self.exactly((made.is_open(), made.send(0, 1), made.deliver(0)), (True, 3, 3))
        made.sync()
        self.exactly((made.is_open(), made.house_version()), (True, (1, 1)))
        self.assertRaises(PowerCut, made.commit, CLOSE)
        self.check_closed(made)
        self.exactly(made.reopen(), 1)
        made.schedule_cut(0, [])
        self.assertRaises(PowerCut, made.sync)
        self.check_closed(made)
        made.reopen()
        made.schedule_cut(3, [])
        self.assertRaises(PowerCut, made.compact)
        self.check_closed(made)
        self.exactly(made.reopen(), 1)

    def test_reopening_that_is_cut(self):
        made = self.link()
        made.commit(CLOSE)
        for many in range(3):
            made.schedule_cut(many, [32])
            self.assertRaises(PowerCut, made.reopen)
            self.check_closed(made)
        # The write that waited was stored whole by the first of these cuts.
        self.exactly((made.reopen(), made.is_open()), (1, True))
        made.schedule_cut(0, [])
        self.assertRaises(PowerCut, made.reopen)
        self.check_closed(made)
        self.exactly(made.reopen(), 1)

    def test_bad_cuts(self):
        made = self.link()
        for torn in ([33], [-1], [0, 100]):
            self.out_of_range("torn", made.cut_power, torn)
            self.out_of_range("torn", made.schedule_cut, 0, torn)
            self.out_of_range("many", made.schedule_cut, -1, torn)
        self.out_of_range("many", made.schedule_cut, 100001, [])
        self.exactly((made.is_open(), made.sync()), (True, 0))
        torn = [32]
        made.schedule_cut(1, torn)
        torn[0] = 0
        made.commit(CLOSE)
        self.assertRaises(PowerCut, made.sync)
        self.exactly(made.reopen(), 1)

    def test_lists_are_not_kept(self):
        policies = list(POLICIES)
        made = Link(Database(PLAN), policies, 2, 60)
        policies.clear()
        for desk in (0, 1):
            made.begin(desk, REQUEST, "lazy")
        self.exactly((made.send(0, 0), made.send(1, 0)), (1, 1))

    def test_the_desks_are_apart(self):
        made = self.link()
        self.settle(made, 0, 1)
        self.exactly((made.told(0, 0), made.told(1, 0), made.told(1, 1)), ((SHOWN, 0, 0), None, None))
        self.exactly(made.begin(1, ("user:ann",) + REQUEST[1:], "lazy"), 2)
        self.exactly(made.begin(0, ("user:ann",) + REQUEST[1:], "lazy"), 2)
        self.exactly(made.send(1, 2), 1)
        self.exactly(made.letters(), [("asks", 1, (("ancestors", "user:ann"),))])

    def test_changes_of_all_kinds(self):
        made = self.link()
        for changes in ([("set", "user:bob", "boss", entity("user:bob"))], [("under", "user:bob", ("group:b",))],
                        [("clear", "doc:plan", "open")], [("drop", "doc:plan"), ("make", "doc:plan", ("doc:x",))],
                        [("set", "doc:plan", "open", number(1))]):
            made.commit(changes)
            made.sync()
            made.renew(0, 1)
            self.deliver_all(made)
            self.settle(made, 0, 1)
            made.renew(0, 1)
            self.deliver_all(made)
        self.exactly([made.told_at(0, 1, version) for version in range(6)], [
            None, ((False, ("staff",), ()), 1, 1), (SHOWN, 2, 2), ((False, (), (("shown", "no attribute"),)), 3, 4),
            ((False, (), (("shown", "no attribute"),)), 3, 4), ((False, (), (("shown", "wrong kind"),)), 5, 5)])


if __name__ == "__main__":
    unittest.main()
