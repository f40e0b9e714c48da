import unittest

from farfacts import stores
from farfacts.errors import (FarError, NoSuchPolicy, NoSuchTemplate, OutOfRange, PolicyExists, SlotsDiffer, TemplateExists,
                             TextFault, TooManyChanges, TooManyPolicies, TooManyTemplates)
from farfacts.policies import is_template
from farfacts.reading import read_book
from farfacts.stores import Store
from farfacts.writing import write_book
from helpers import NO, PRINCIPAL, RESOURCE, YES, Case, lit, nots, op, text
from worlds import World


def policy(name, condition=YES):
    return (name, "permit", ("kind", "user"), ("a:b", "a:c"), ("any",), condition)


def template(name, principal=("is", "?"), resource=("any",)):
    return (name, "forbid", principal, None, resource, op("same", PRINCIPAL, RESOURCE))


def linked(one, name, principal, resource):
    first = (one[2][0], principal) if principal else one[2]
    second = (one[4][0], resource) if resource else one[4]
    return (name, one[1], first, one[3], second, one[5])


BOTH = template("both", ("in", "?"), ("is", "?"))


class StoreCase(Case):
    def setUp(self):
        self.store = Store()

    def holds(self, policies, templates, edits):
        self.exactly(self.store.policies(), policies)
        self.exactly(self.store.templates(), templates)
        self.exactly(self.store.edit_count(), edits)
        self.exactly(self.store.book(), write_book(templates + policies))

    def make(self, *edits):
        for edit in edits:
            count = self.store.edit_count()
            self.exactly(self.store.apply(edit), count + 1)
            self.exactly(self.store.edit_count(), count + 1)

    def refuses(self, error, call, *args):
        """The call raises just this error (or OutOfRange with this name) and changes nothing."""
        before = (self.store.policies(), self.store.templates(), self.store.edit_count(), self.store.book())
        with self.assertRaises(FarError) as caught:
            call(*args)
        if isinstance(error, str):
            self.assertIs(type(caught.exception), OutOfRange)
            self.assertEqual(caught.exception.name, error)
        else:
            self.assertIs(type(caught.exception), error)
        after = (self.store.policies(), self.store.templates(), self.store.edit_count(), self.store.book())
        self.exactly(after, before)
        return caught.exception

    def refused_edit(self, error, *edit):
        self.refuses(error, self.store.apply, edit)

    def fill_policies(self, many):
        self.make(*[("add policy", policy("p" + str(n))) for n in range(len(self.store.policies()), many)])

    def fill_templates(self, many):
        self.make(*[("add template", template("t" + str(n))) for n in range(len(self.store.templates()), many)])

    def fill_edits(self, many):
        """Edits that come and go until so many are made."""
        while self.store.edit_count() < many:
            there = [one for one in self.store.policies() if one[0] == "filler"]
            self.make(("remove policy", "filler") if there else ("add policy", policy("filler")))


class EditTest(StoreCase):
    def test_bounds(self):
        self.exactly((stores.POLICIES_MOST, stores.TEMPLATES_MOST, stores.EDITS_MOST), (24, 8, 60))

    def test_a_new_store(self):
        self.holds([], [], 0)
        self.exactly(self.store.book(), "")

    def test_each_edit(self):
        self.make(("add policy", policy("a")))
        self.holds([policy("a")], [], 1)
        self.make(("add template", BOTH))
        self.holds([policy("a")], [BOTH], 2)
        self.make(("link", "both", "b", "user:x", "doc:y"))
        link = linked(BOTH, "b", "user:x", "doc:y")
        self.holds([policy("a"), link], [BOTH], 3)
        self.make(("add policy", policy("c", NO)))
        self.holds([policy("a"), link, policy("c", NO)], [BOTH], 4)
        self.make(("remove policy", "a"))
        self.holds([link, policy("c", NO)], [BOTH], 5)
        self.make(("remove template", "both"))
        self.holds([link, policy("c", NO)], [], 6)
        self.make(("remove policy", "b"))
        self.holds([policy("c", NO)], [], 7)
        self.make(("add policy", policy("a")))
        self.holds([policy("c", NO), policy("a")], [], 8)

    def test_order_of_templates(self):
        one, two, three = template("z"), template("a"), template("m", ("any",), ("in", "?"))
        self.make(("add template", one), ("add template", two), ("add template", three))
        self.holds([], [one, two, three], 3)
        self.make(("remove template", "a"))
        self.holds([], [one, three], 4)
        self.make(("add template", two))
        self.holds([], [one, three, two], 5)

    def test_links_of_each_slot(self):
        for one, principal, resource in (
                (template("t"), "user:x", None), (template("t", ("in", "?")), "user:x", None),
                (template("t", ("kind", "user"), ("is", "?")), None, "doc:y"),
                (template("t", ("is", "?"), ("in", "?")), "user:x", "doc:y")):
            self.store = Store()
            self.make(("add template", one), ("link", "t", "t", principal, resource))
            self.holds([linked(one, "t", principal, resource)], [one], 2)

    def test_a_template_with_the_id_of_a_policy(self):
        self.make(("add policy", policy("a")), ("add template", template("a")), ("add template", template("b")),
                  ("add policy", policy("b")))
        self.holds([policy("a"), policy("b")], [template("a"), template("b")], 4)
        self.make(("remove policy", "b"), ("remove template", "a"))
        self.holds([policy("a")], [template("b")], 6)

    def test_links_remain_behind_their_template(self):
        self.make(("add template", BOTH), ("link", "both", "a", "u:a", "d:a"), ("link", "both", "b", "u:b", "d:b"),
                  ("remove template", "both"))
        links = [linked(BOTH, name, "u:" + name, "d:" + name) for name in "ab"]
        self.holds(links, [], 4)
        self.refused_edit(NoSuchTemplate, "link", "both", "c", "u:c", "d:c")
        # Another template of this id changes nothing of them.
        self.make(("add template", template("both")), ("link", "both", "c", "u:c", None))
        self.holds(links + [linked(template("both"), "c", "u:c", None)], [template("both")], 6)

    def test_two_stores(self):
        other = Store()
        self.make(("add policy", policy("a")))
        self.exactly((other.policies(), other.templates(), other.edit_count()), ([], [], 0))
        other.apply(("add template", template("t")))
        self.holds([policy("a")], [], 1)

    def test_lists_do_not_reach_the_store(self):
        self.make(("add policy", policy("a")), ("add template", template("t")))
        for found in (self.store.policies(), self.store.templates()):
            found.append(policy("b"))
            found[0] = policy("c")
            del found[0]
        self.holds([policy("a")], [template("t")], 2)


class RefusedTest(StoreCase):
    def test_add_policy(self):
        good = policy("a")
        self.make(("add policy", policy("p")))
        for name, at, bad in (("id", 0, "A"), ("effect", 1, "allow"), ("principal", 2, ("is", "x")), ("actions", 3, ()),
                              ("resource", 4, ("kind", "A")), ("condition", 5, ()), ("principal", 2, ("is", "?")),
                              ("resource", 4, ("in", "?")), ("condition", 5, nots(41))):
            self.refused_edit(name, "add policy", good[:at] + (bad,) + good[at + 1:])
        self.refused_edit("effect", "add policy", ("a", "", ("is", "?"), (), ("any",), ()))
        self.refused_edit("actions", "add policy", ("a", "permit", ("any",), (), ("is", "?"), ()))
        self.refused_edit(PolicyExists, "add policy", policy("p"))
        self.refused_edit(PolicyExists, "add policy", policy("p", NO))

    def test_remove_policy(self):
        self.make(("add policy", policy("p")), ("add template", template("t")))
        for name in ("t", "a", "", "pp", "P"):
            self.refused_edit(NoSuchPolicy, "remove policy", name)

    def test_add_template(self):
        good = template("a")
        self.make(("add template", template("t")), ("add policy", policy("p")))
        for name, at, bad in (("id", 0, "A"), ("effect", 1, "allow"), ("principal", 2, ("is", "x")), ("actions", 3, ()),
                              ("resource", 4, ("kind", "A")), ("condition", 5, ()), ("principal", 2, ("kind", "?")),
                              ("slots", 2, ("any",)), ("slots", 2, ("is", "a:b"))):
            self.refused_edit(name, "add template", good[:at] + (bad,) + good[at + 1:])
        self.refused_edit("slots", "add template", policy("a"))
        self.refused_edit(TemplateExists, "add template", template("t"))
        self.refused_edit(TemplateExists, "add template", ("t",) + BOTH[1:])

    def test_remove_template(self):
        self.make(("add policy", policy("p")), ("add template", template("t")))
        for name in ("p", "a", "", "tt", "T"):
            self.refused_edit(NoSuchTemplate, "remove template", name)

    def test_link(self):
        self.make(("add policy", policy("p")), ("add template", BOTH), ("add template", template("one")))
        self.refused_edit(NoSuchTemplate, "link", "p", "a", "u:u", "d:d")
        self.refused_edit(NoSuchTemplate, "link", "none", "a", "u:u", "d:d")
        self.refused_edit("id", "link", "both", "A", "u:u", "d:d")
        self.refused_edit("principal", "link", "both", "a", "u", "d:d")
        self.refused_edit("principal", "link", "both", "a", "?", "d:d")
        self.refused_edit("resource", "link", "both", "a", "u:u", "d")
        for principal, resource in ((None, None), ("u:u", None), (None, "d:d")):
            self.refused_edit(SlotsDiffer, "link", "both", "a", principal, resource)
        for principal, resource in ((None, None), ("u:u", "d:d"), (None, "d:d")):
            self.refused_edit(SlotsDiffer, "link", "one", "a", principal, resource)
        self.refused_edit(PolicyExists, "link", "both", "p", "u:u", "d:d")
        self.make(("link", "both", "both", "u:u", "d:d"))
        self.refused_edit(PolicyExists, "link", "both", "both", "u:u", "d:d")

    def test_too_many_policies(self):
        self.make(("add template", template("t")))
        self.fill_policies(23)
        self.make(("link", "t", "p23", "u:u", None))
        self.refused_edit(TooManyPolicies, "add policy", policy("new"))
        self.refused_edit(TooManyPolicies, "link", "t", "new", "u:u", None)
        self.make(("add template", template("new")), ("remove policy", "p3"), ("add policy", policy("new")))
        self.refused_edit(TooManyPolicies, "add policy", policy("p3"))
        self.assertEqual(len(self.store.policies()), 24)

    def test_too_many_templates(self):
        self.fill_templates(8)
        self.refused_edit(TooManyTemplates, "add template", template("new"))
        self.make(("add policy", policy("new")), ("remove template", "t0"), ("add template", template("new")))
        self.refused_edit(TooManyTemplates, "add template", template("t0"))
        self.assertEqual(len(self.store.templates()), 8)

    def test_too_many_edits(self):
        self.make(("add policy", policy("p")), ("add template", BOTH))
        self.fill_edits(60)
        for edit in (("add policy", policy("new")), ("remove policy", "p"), ("add template", template("new")),
                     ("remove template", "both"), ("link", "both", "new", "u:u", "d:d")):
            self.refused_edit(TooManyChanges, *edit)
        self.assertTrue(self.store.undo())
        self.make(("add policy", policy("new")))
        self.refused_edit(TooManyChanges, "remove policy", "new")

    def test_two_reasons_at_once(self):
        self.make(("add template", BOTH))
        self.fill_templates(8)
        self.fill_policies(24)
        for full in (False, True):
            # The bounds of the policy, then its id, then the number.
            self.refused_edit("effect", "add policy", ("p0", "", ("any",), None, ("any",), YES))
            self.refused_edit(PolicyExists, "add policy", policy("p0"))
            self.refused_edit("condition", "add template", template("both")[:5] + ((),))
            self.refused_edit("slots", "add template", policy("both"))
            self.refused_edit(TemplateExists, "add template", template("both"))
            self.refused_edit(NoSuchTemplate, "link", "none", "", "", "")
            self.refused_edit("id", "link", "both", "", "u", None)
            self.refused_edit("principal", "link", "both", "p0", "u", "d")
            self.refused_edit("resource", "link", "both", "p0", None, "d")
            self.refused_edit(SlotsDiffer, "link", "both", "p0", None, "d:d")
            self.refused_edit(PolicyExists, "link", "both", "p0", "u:u", "d:d")
            # Behind 60 edits all these come before the number of edits.
            self.refused_edit(TooManyPolicies, "add policy", policy("new"))
            self.refused_edit(TooManyPolicies, "link", "both", "new", "u:u", "d:d")
            self.refused_edit(TooManyTemplates, "add template", template("new"))
            self.refused_edit(NoSuchPolicy, "remove policy", "none")
            self.refused_edit(NoSuchTemplate, "remove template", "none")
            self.refused_edit("id", "add policy", policy(""))
            if not full:
                self.make(("remove policy", "p23"))
                self.fill_edits(59)
                self.make(("add policy", policy("last")))
                self.assertEqual((len(self.store.policies()), self.store.edit_count()), (24, 60))


class UndoTest(StoreCase):
    def test_nothing(self):
        self.exactly(self.store.undo(), False)
        self.holds([], [], 0)
        self.make(("add policy", policy("a")))
        self.exactly((self.store.undo(), self.store.undo(), self.store.undo()), (True, False, False))
        self.holds([], [], 0)

    def test_every_edit(self):
        edits = [("add policy", policy("a")), ("add policy", policy("b")), ("add policy", policy("c")),
                 ("add template", template("x")), ("add template", BOTH), ("add template", template("z")),
                 ("link", "both", "d", "u:u", "d:d"), ("remove policy", "b"), ("remove template", "both"),
                 ("remove policy", "a"), ("add policy", policy("a")), ("remove template", "x"), ("remove policy", "d"),
                 ("remove template", "z"), ("remove policy", "a"), ("remove policy", "c")]
        held = []
        for edit in edits:
            held.append((self.store.policies(), self.store.templates(), self.store.edit_count()))
            self.make(edit)
        self.holds([], [], len(edits))
        for wanted in reversed(held):
            self.exactly(self.store.undo(), True)
            self.holds(*wanted)
        self.exactly(self.store.undo(), False)

    def test_a_removal_from_the_middle(self):
        self.fill_policies(5)
        self.fill_templates(5)
        policies, templates = self.store.policies(), self.store.templates()
        for at in range(5):
            self.make(("remove policy", "p" + str(at)), ("remove template", "t" + str(at)))
            self.holds(policies[:at] + policies[at + 1:], templates[:at] + templates[at + 1:], 12)
            self.exactly((self.store.undo(), self.store.undo()), (True, True))
            self.holds(policies, templates, 10)

    def test_room_behind_an_undo(self):
        self.fill_templates(8)
        self.fill_policies(24)
        self.refused_edit(TooManyPolicies, "add policy", policy("new"))
        self.exactly(self.store.undo(), True)
        self.make(("add policy", policy("new")))
        self.refused_edit(PolicyExists, "add policy", policy("new"))
        self.refused_edit(TooManyPolicies, "add policy", policy("p23"))

    def test_refused_edits_are_not_undone(self):
        self.make(("add policy", policy("a")), ("add policy", policy("b")))
        self.refused_edit(PolicyExists, "add policy", policy("a"))
        self.exactly(self.store.undo(), True)
        self.holds([policy("a")], [], 1)

    def test_edits_behind_an_undo(self):
        self.make(("add policy", policy("a")), ("add policy", policy("b")))
        self.store.undo()
        self.make(("add policy", policy("c")))
        self.holds([policy("a"), policy("c")], [], 2)
        self.store.undo()
        self.holds([policy("a")], [], 1)
        self.store.undo()
        self.holds([], [], 0)

    def test_a_random_walk(self):
        world = World(37)
        kept = []
        for _ in range(1500):
            now = (self.store.policies(), self.store.templates())
            name, kind = "n" + str(world.random.randint(0, 5)), world.random.randint(0, 7)
            if kind <= 1:
                self.exactly(self.store.undo(), bool(kept))
                if kept:
                    now = kept.pop()
                self.exactly((self.store.policies(), self.store.templates()), now)
                continue
            edit = (("add policy", world.policy(name)), ("remove policy", name), ("add template", world.policy(name, True)),
                    ("remove template", name), ("link", name, "l" + name, "u:u", None), ("add policy", policy(name)))[kind - 2]
            try:
                self.exactly(self.store.apply(edit), len(kept) + 1)
                kept.append(now)
            except FarError:
                self.exactly((self.store.policies(), self.store.templates()), now)
            self.exactly(self.store.edit_count(), len(kept))


class LoadTest(StoreCase):
    def load(self, book, many):
        before = self.store.edit_count()
        self.exactly(self.store.load(book), many)
        self.exactly(self.store.edit_count(), before + many)

    def test_policies_and_templates(self):
        rows = [policy("a"), template("t"), policy("b"), BOTH, policy("both")]
        self.load(write_book(rows), 5)
        self.holds([policy("a"), policy("b"), policy("both")], [template("t"), BOTH], 5)
        self.load("# more\n(permit c any any any yes)(permit c (is ?) any any no)", 2)
        self.assertEqual([one[0] for one in self.store.policies()], ["a", "b", "both", "c"])
        self.assertEqual([one[0] for one in self.store.templates()], ["t", "both", "c"])

    def test_empty_books(self):
        self.make(("add policy", policy("a")))
        for empty in ("", "\n", "# (\n"):
            self.load(empty, 0)
            self.holds([policy("a")], [], 1)

    def test_each_is_undone_alone(self):
        self.make(("add policy", policy("first")))
        rows = [policy("a"), template("t"), policy("b"), BOTH]
        self.load(write_book(rows), 4)
        self.store.undo()
        self.holds([policy("first"), policy("a"), policy("b")], [template("t")], 4)
        self.store.undo()
        self.holds([policy("first"), policy("a")], [template("t")], 3)
        self.store.undo()
        self.holds([policy("first"), policy("a")], [], 2)
        self.store.undo()
        self.holds([policy("first")], [], 1)
        self.store.undo()
        self.holds([], [], 0)

    def test_texts_that_are_at_fault(self):
        self.make(("add policy", policy("a")))
        good = "(permit b any any any yes)\n"
        found = self.refuses(TextFault, self.store.load, good + "(permit c any any any)")
        self.assertEqual((found.line, found.column, found.words), (2, 22, "expected an expression"))
        found = self.refuses(TextFault, self.store.load, "(permit a any any any yes)(\"")
        self.assertEqual((found.line, found.column, found.words), (1, 29, "text is not closed"))
        self.refuses("text", self.store.load, good + "#" * 12000)
        # The text is read before anything is refused.
        found = self.refuses(TextFault, self.store.load, "(permit a any any any yes) (permit b)")
        self.assertEqual((found.line, found.column, found.words), (1, 37, "expected a scope"))

    def test_a_later_policy_that_is_refused(self):
        self.make(("add policy", policy("p")), ("add template", template("t")))
        for last, error in ((policy("p"), PolicyExists), (policy("new"), PolicyExists), (template("t"), TemplateExists),
                            (template("fresh"), TemplateExists)):
            rows = [policy("new"), template("fresh"), last, policy("later")]
            self.refuses(error, self.store.load, write_book(rows))
        # The first one that is refused is told.
        self.refuses(TemplateExists, self.store.load, write_book([policy("new"), template("t"), policy("p")]))
        self.refuses(PolicyExists, self.store.load, write_book([policy("p"), template("t")]))

    def test_too_many_policies(self):
        self.fill_policies(20)
        rows = [policy("n" + str(n)) for n in range(5)]
        self.refuses(TooManyPolicies, self.store.load, write_book(rows))
        self.load(write_book(rows[:4]), 4)
        self.refuses(TooManyPolicies, self.store.load, write_book(rows[4:]))
        self.load(write_book([template("t" + str(n)) for n in range(8)]), 8)
        self.refuses(TooManyTemplates, self.store.load, write_book([template("new")]))

    def test_too_many_edits(self):
        self.fill_edits(57)
        rows = [policy("a"), template("t"), policy("b"), policy("c")]
        self.refuses(TooManyChanges, self.store.load, write_book(rows))
        # What comes first is told first.
        self.refuses(PolicyExists, self.store.load, write_book(rows[:3] + [policy("a")]))
        self.refuses(TooManyChanges, self.store.load, write_book(rows + [policy("a")]))
        self.load(write_book(rows[:3]), 3)
        self.refuses(TooManyChanges, self.store.load, write_book(rows[3:]))
        self.load("", 0)


class BookTest(StoreCase):
    def test_templates_then_policies(self):
        self.make(("add policy", policy("a")), ("add template", template("t")), ("link", "t", "b", "u:u", None))
        self.exactly(self.store.book(), "(forbid t (is ?) any any (= principal resource))\n"
                                        "(permit a (kind user) (a:b a:c) any yes)\n"
                                        "(forbid b (is u:u) any any (= principal resource))\n")

    def test_read_back(self):
        world = World(371)
        for _ in range(60):
            self.store = Store()
            for n in range(world.random.randint(0, 6)):
                one = world.policy("n" + str(n), True)
                self.make(("add template" if is_template(one) else "add policy", one))
            book = self.store.book()
            other = Store()
            self.exactly(other.load(book), len(read_book(book)))
            self.exactly(other.policies(), self.store.policies())
            self.exactly(other.templates(), self.store.templates())
            self.exactly(other.book(), book)

    def test_a_long_book(self):
        long = lit(text("x" * 40))
        for _ in range(12):
            long = op("same", lit(text("y" * 40)), long)
        rows = [policy("p" + str(n), long) for n in range(24)]
        self.make(*[("add policy", one) for one in rows])
        self.assertGreater(len(self.store.book()), 12000)
        self.holds(rows, [], 24)
        self.refuses("text", Store().load, self.store.book())


if __name__ == "__main__":
    unittest.main()
