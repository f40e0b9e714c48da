import itertools
import unittest

from farfacts import facts
from farfacts.errors import UnlikeFacts
from farfacts.facts import Known, Told, View, check_fact
from helpers import Case, entity, items, number, text, truth
from worlds import World

AGE = ("attribute", "user:bob", "age")
TEAM = ("attribute", "doc:plan", "team")
ABOVE = ("ancestors", "user:bob")
ONE, TWO = ("value", number(1)), ("value", number(2))
GONE, NONE = ("gone",), ("none",)
NOBODY = ("above", ())

BAD_READS = (
    ("attribute", "bob", "age"), ("attribute", "", "age"), ("attribute", "user:bob:x", "age"),
    ("attribute", "User:bob", "age"), ("attribute", "abcdefghijklm:b", "age"), ("attribute", "user:bob", ""),
    ("attribute", "user:bob", "Age"), ("attribute", "user:bob", "abcdefghijklm"), ("attribute", "user:bob", "a b"),
    ("attribute", "bob", ""), ("ancestors", "bob"), ("ancestors", ""), ("ancestors", "user:"), ("ancestors", "a:b:c"),
)
GOOD_TOLD = (
    (AGE, GONE), (AGE, NONE), (AGE, ONE), (AGE, ("value", number(-1000000))), (AGE, ("value", truth(False))),
    (AGE, ("value", text("x" * 40))), (AGE, ("value", entity("user:bob"))), (AGE, ("value", ("set", ()))),
    (AGE, ("value", items(truth(False), number(1), text(""), entity("a:b")))),
    (ABOVE, NOBODY), (ABOVE, ("above", ("a:b",))), (ABOVE, ("above", ("a1:b", "a:b", "user:ann"))),
    (ABOVE, ("above", tuple("g:" + str(n) for n in range(100, 200)))),
)
BAD_TOLD = (
    (AGE, NOBODY), (AGE, ("above", ("a:b",))), (AGE, ("value", number(1000001))), (AGE, ("value", number(-1000001))),
    (AGE, ("value", text("x" * 41))), (AGE, ("value", text('"'))), (AGE, ("value", entity("bob"))),
    (AGE, ("value", items(number(2), number(1)))), (AGE, ("value", items(number(1), number(1)))),
    (AGE, ("value", items(items()))), (AGE, ("value", items(*[number(n) for n in range(9)]))),
    (ABOVE, GONE), (ABOVE, NONE), (ABOVE, ONE), (ABOVE, ("value", ("set", ()))),
    (ABOVE, ("above", ("user:bob",))), (ABOVE, ("above", ("user:ann", "user:bob", "user:cid"))),
    (ABOVE, ("above", ("b:a", "a:b"))), (ABOVE, ("above", ("a:b", "a:b"))), (ABOVE, ("above", ("a:b", "a1:b"))),
    (ABOVE, ("above", ("bob",))), (ABOVE, ("above", ("a:b", "c"))), (ABOVE, ("above", ("",))),
)
BAD_SPANS = ((-1, 0), (-1, -1), (-5, 7), (1, 0), (100000, 99999), (5, 4), (0, 100001), (100001, 100001), (100001, 5))
GOOD_SPANS = ((0, 0), (0, 100000), (100000, 100000), (3, 4), (7, 7))


class CheckFactTest(Case):
    def test_bound(self):
        self.exactly(facts.VERSION_MOST, 100000)

    def test_good(self):
        for read, told in GOOD_TOLD:
            for since, upto in GOOD_SPANS:
                self.assertIsNone(check_fact((read, told, since, upto)))

    def test_each_part_alone(self):
        for read in BAD_READS:
            self.out_of_range("read", check_fact, (read, NOBODY if read[0] == "ancestors" else ONE, 0, 1))
        for read, told in BAD_TOLD:
            self.out_of_range("told", check_fact, (read, told, 0, 1))
        for since, upto in BAD_SPANS:
            self.out_of_range("span", check_fact, (AGE, ONE, since, upto))
            self.out_of_range("span", check_fact, (ABOVE, NOBODY, since, upto))

    def test_two_parts_at_once(self):
        for read in BAD_READS:
            wrong = ONE if read[0] == "ancestors" else NOBODY
            self.out_of_range("read", check_fact, (read, wrong, 0, 1))
            self.out_of_range("read", check_fact, (read, NOBODY if read[0] == "ancestors" else ONE, 1, 0))
            self.out_of_range("read", check_fact, (read, wrong, 1, 0))
        for read, told in BAD_TOLD:
            for since, upto in BAD_SPANS:
                self.out_of_range("told", check_fact, (read, told, since, upto))


class ToldTest(Case):
    def test_tell(self):
        rows = [(AGE, ONE), (ABOVE, NOBODY), (TEAM, GONE)]
        for made in (Told(rows), Told(tuple(rows)), Told(list(reversed(rows)))):
            for read, told in rows:
                self.exactly(made.tell(read), told)
            self.assertIsNone(made.tell(("attribute", "user:bob", "name")))
            self.assertIsNone(made.tell(("ancestors", "doc:plan")))
        self.assertIsNone(Told([]).tell(AGE))
        self.assertIsNone(Told(()).tell(AGE))

    def test_the_first_counts(self):
        self.exactly(Told([(AGE, ONE), (AGE, TWO)]).tell(AGE), ONE)
        self.exactly(Told(((AGE, TWO), (ABOVE, NOBODY), (AGE, ONE), (AGE, TWO))).tell(AGE), TWO)
        self.exactly(Told([(AGE, GONE), (AGE, ONE)]).tell(AGE), GONE)

    def test_the_list_is_not_kept(self):
        rows = [(AGE, ONE)]
        made = Told(rows)
        self.exactly(rows, [(AGE, ONE)])
        rows[0] = (AGE, TWO)
        rows.append((ABOVE, NOBODY))
        self.exactly((made.tell(AGE), made.tell(ABOVE)), (ONE, None))


def known_from(*rows):
    known = Known()
    for fact in rows:
        known.learn(fact)
    return known


class KnownTest(Case):
    def all_of(self, known):
        return (known.reads(), known.facts(), known.newest(), [known.spans(read) for read in (AGE, TEAM, ABOVE)])

    def test_nothing(self):
        known = Known()
        self.exactly((known.reads(), known.facts(), known.newest(), known.spans(AGE)), ([], [], -1, []))
        for version in (-1, 0, 5, 100000):
            self.exactly((known.at(AGE, version), known.span(AGE, version), known.view(version).tell(AGE)), (None,) * 3)

    def test_one(self):
        known = Known()
        self.exactly(known.learn((AGE, ONE, 3, 5)), True)
        self.exactly(known.spans(AGE), [(3, 5, ONE)])
        self.exactly((known.reads(), known.facts(), known.newest()), ([AGE], [(AGE, ONE, 3, 5)], 5))
        for version in (0, 2, 6, 100000):
            self.exactly((known.at(AGE, version), known.span(AGE, version)), (None, None))
        for version in (3, 4, 5):
            self.exactly((known.at(AGE, version), known.span(AGE, version)), (ONE, (3, 5)))
        self.exactly((known.at(TEAM, 4), known.span(TEAM, 4), known.spans(TEAM)), (None, None, []))

    def test_the_same_told(self):
        # What is known, the versions that are learned, whether they are new, and what is known then.
        for before, learned, new, after in (
                ([(3, 5)], (3, 5), False, [(3, 5)]),
                ([(3, 5)], (4, 4), False, [(3, 5)]),
                ([(3, 5)], (3, 4), False, [(3, 5)]),
                ([(3, 5)], (5, 5), False, [(3, 5)]),
                ([(3, 5)], (2, 5), True, [(2, 5)]),
                ([(3, 5)], (3, 6), True, [(3, 6)]),
                ([(3, 5)], (1, 9), True, [(1, 9)]),
                ([(3, 5)], (4, 7), True, [(3, 7)]),
                ([(3, 5)], (0, 3), True, [(0, 5)]),
                ([(3, 5)], (6, 7), True, [(3, 7)]),
                ([(3, 5)], (1, 2), True, [(1, 5)]),
                ([(3, 5)], (7, 8), True, [(3, 5), (7, 8)]),
                ([(3, 5)], (0, 1), True, [(0, 1), (3, 5)]),
                ([(3, 5), (7, 8)], (6, 6), True, [(3, 8)]),
                ([(3, 5), (8, 9)], (6, 7), True, [(3, 9)]),
                ([(3, 5), (9, 9)], (6, 7), True, [(3, 7), (9, 9)]),
                ([(3, 5), (9, 9)], (7, 7), True, [(3, 5), (7, 7), (9, 9)]),
                ([(3, 5), (9, 9)], (7, 8), True, [(3, 5), (7, 9)]),
                ([(0, 0), (2, 2), (4, 4), (6, 6)], (1, 5), True, [(0, 6)]),
                ([(0, 0), (2, 2), (4, 4), (6, 6)], (2, 4), True, [(0, 0), (2, 4), (6, 6)]),
                ([(0, 0), (2, 2), (4, 4), (6, 6)], (4, 4), False, [(0, 0), (2, 2), (4, 4), (6, 6)]),
                ([(99999, 99999)], (100000, 100000), True, [(99999, 100000)])):
            known = known_from(*[(AGE, ONE, since, upto) for since, upto in before])
            self.exactly(known.learn((AGE, ONE) + learned), new)
            self.exactly(known.spans(AGE), [span + (ONE,) for span in after])
            self.exactly(known.facts(), [(AGE, ONE) + span for span in after])
            for since, upto in after:
                for version in range(since, upto + 1):
                    self.exactly(known.span(AGE, version), (since, upto))
            self.exactly(known.learn((AGE, ONE) + learned), False)
            self.exactly(known.newest(), max(upto for _, upto in after))

    def test_another_told(self):
        for learned in ((0, 2), (2, 2), (6, 6), (6, 9), (8, 9)):
            known = known_from((AGE, ONE, 3, 5))
            self.exactly(known.learn((AGE, TWO) + learned), True)
            self.exactly(known.spans(AGE), sorted([(3, 5, ONE), learned + (TWO,)]))
            self.exactly(known.at(AGE, 3), ONE)
            self.exactly((known.at(AGE, learned[0]), known.span(AGE, learned[1])), (TWO, learned))
        # Spans that tell different things do not become one, and one between two others keeps them apart.
        known = known_from((AGE, ONE, 3, 5), (AGE, TWO, 6, 6), (AGE, ONE, 7, 9))
        self.exactly(known.spans(AGE), [(3, 5, ONE), (6, 6, TWO), (7, 9, ONE)])
        self.exactly(known.learn((AGE, GONE, 0, 2)), True)
        self.exactly(known.learn((AGE, NONE, 10, 11)), True)
        self.exactly(known.spans(AGE), [(0, 2, GONE), (3, 5, ONE), (6, 6, TWO), (7, 9, ONE), (10, 11, NONE)])

    def test_other_reads(self):
        known = known_from((AGE, ONE, 3, 5), (TEAM, ONE, 4, 7), (ABOVE, NOBODY, 1, 2),
                           (("attribute", "user:bob", "ag"), TWO, 3, 5), (("attribute", "user:bo", "age"), TWO, 3, 5))
        self.exactly(known.spans(AGE), [(3, 5, ONE)])
        self.exactly(known.spans(TEAM), [(4, 7, ONE)])
        self.exactly(known.newest(), 7)

    def test_unlike(self):
        known = known_from((AGE, ONE, 3, 5), (AGE, TWO, 8, 8), (TEAM, ONE, 0, 9))
        before = self.all_of(known)
        for told, since, upto in ((TWO, 3, 5), (TWO, 3, 3), (TWO, 5, 5), (TWO, 4, 4), (TWO, 0, 3), (TWO, 5, 7), (TWO, 1, 9),
                                  (TWO, 5, 8), (ONE, 8, 8), (ONE, 3, 8), (ONE, 6, 9), (ONE, 0, 100000), (GONE, 4, 4),
                                  (NONE, 0, 100000), (("value", truth(True)), 3, 3), (("value", text("1")), 5, 5)):
            with self.assertRaises(UnlikeFacts):
                known.learn((AGE, told, since, upto))
            self.exactly(self.all_of(known), before)

    def test_bad_facts(self):
        known = known_from((AGE, ONE, 3, 5))
        before = self.all_of(known)
        for name, rows in (("read", [(read, GONE, 1, 0) for read in BAD_READS]),
                           ("told", [row + (3, 2) for row in BAD_TOLD]),
                           ("span", [(AGE, TWO) + span for span in BAD_SPANS])):
            for fact in rows:
                self.out_of_range(name, known.learn, fact)
        self.exactly(self.all_of(known), before)

    def test_reads_rise(self):
        row = [("ancestors", "user:bo"), ("ancestors", "user:bob"), ("attribute", "a:b", "z"), ("attribute", "user:bob", "a"),
               ("attribute", "user:bob", "aa"), ("attribute", "user:bob", "b"), ("attribute", "user:bobb", "a")]
        for order in itertools.islice(itertools.permutations(row), 0, 5040, 211):
            known = known_from(*[(read, NOBODY if read[0] == "ancestors" else NONE, n, n) for n, read in enumerate(order)])
            self.exactly(known.reads(), row)
            self.exactly([fact[0] for fact in known.facts()], row)
            self.exactly(known.newest(), 6)

    def test_several_orders(self):
        rows = [(AGE, ONE, 0, 2), (AGE, ONE, 2, 4), (AGE, TWO, 5, 5), (AGE, ONE, 7, 7), (AGE, ONE, 6, 6), (ABOVE, NOBODY, 3, 3)]
        wanted = [(ABOVE, NOBODY, 3, 3), (AGE, ONE, 0, 4), (AGE, TWO, 5, 5), (AGE, ONE, 6, 7)]
        for order in itertools.permutations(rows):
            known = known_from(*order)
            self.exactly(known.facts(), wanted)
            self.exactly(known.newest(), 7)
            self.exactly([known.at(AGE, version) for version in range(9)], [ONE] * 5 + [TWO] + [ONE] * 2 + [None])

    def test_against_a_table(self):
        world = World(50)
        for _ in range(60):
            known, table = Known(), {}
            for _ in range(40):
                read, told = world.one((AGE, TEAM)), world.one((ONE, ONE, TWO, GONE))
                since = world.random.randint(0, 15)
                upto = since + world.one((0, 0, 1, 3, 7))
                versions = range(since, upto + 1)
                if any(table.get((read, version), told) != told for version in versions):
                    with self.assertRaises(UnlikeFacts):
                        known.learn((read, told, since, upto))
                else:
                    new = any((read, version) not in table for version in versions)
                    self.exactly(known.learn((read, told, since, upto)), new)
                    table.update({(read, version): told for version in versions})
                self.check_table(known, table)

    def check_table(self, known, table):
        self.exactly(known.newest(), max((version for _, version in table), default=-1))
        self.exactly(known.reads(), sorted({read for read, _ in table}))
        for read in (AGE, TEAM):
            told = [table.get((read, version)) for version in range(30)]
            self.exactly([known.at(read, version) for version in range(30)], told)
            spans = []
            for version in range(30):
                if told[version] is None:
                    continue
                if version and told[version - 1] == told[version]:
                    spans[-1] = (spans[-1][0], version, told[version])
                else:
                    spans.append((version, version, told[version]))
            self.exactly(known.spans(read), spans)

    def test_views(self):
        known = known_from((AGE, ONE, 3, 5))
        early, late = known.view(5), known.view(6)
        self.assertIs(type(early), View)
        self.exactly((early.tell(AGE), late.tell(AGE), early.tell(TEAM)), (ONE, None, None))
        # A view tells what is learned later, too.
        known.learn((AGE, TWO, 6, 7))
        known.learn((TEAM, NONE, 0, 5))
        self.exactly((early.tell(AGE), late.tell(AGE), early.tell(TEAM), late.tell(TEAM)), (ONE, TWO, NONE, None))
        self.exactly((View(known, 7).tell(AGE), View(known, 8).tell(AGE)), (TWO, None))

    def test_duplicates(self):
        known = known_from((AGE, ONE, 3, 5), (ABOVE, NOBODY, 0, 0))
        view, other = known.view(6), known.duplicate()
        self.assertIs(type(other), Known)
        self.exactly(self.all_of(other), self.all_of(known))
        known.learn((AGE, ONE, 6, 6))
        self.exactly((other.spans(AGE), other.newest()), ([(3, 5, ONE)], 5))
        other.learn((AGE, TWO, 6, 9))
        other.learn((TEAM, ONE, 0, 0))
        self.exactly((known.spans(AGE), known.spans(TEAM), known.newest()), ([(3, 6, ONE)], [], 6))
        self.exactly((view.tell(AGE), other.view(6).tell(AGE)), (ONE, TWO))

    def test_lists_are_not_kept(self):
        known = known_from((AGE, ONE, 3, 5), (ABOVE, NOBODY, 0, 0))
        before = self.all_of(known)
        for given in (known.reads(), known.facts(), known.spans(AGE), known.spans(TEAM)):
            given.append(7)
            given[0] = 8
        self.exactly(self.all_of(known), before)


if __name__ == "__main__":
    unittest.main()
