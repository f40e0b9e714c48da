import itertools
import unittest

from farfacts.databases import Database
from farfacts.deciding import decide
from farfacts.facts import Told
from farfacts.papers import agrees, judge, paper_of
from helpers import NO, YES, Case, Recorder, entity, items, known_of, number, text, truth
from worlds import ANY, BOB, BOSS, OPEN, OWNER, PLAN, POLICIES, REQUEST, World

DECISION = (True, ("shown",), ())
PAPER = (
    (BOB, ("above", ("group:staff",))),
    (OWNER, ("value", entity("user:bob"))),
    (BOSS, ("value", entity("user:ann"))),
    (OPEN, ("value", truth(True))),
)
OTHER_DECISIONS = (
    (False, ("shown",), ()), (True, (), ()), (True, ("staff",), ()), (True, ("shown", "staff"), ()),
    (True, ("shown",), (("staff", "no entity"),)), (False, (), ()), (False, ("staff",), ()), None,
)
ANSWERS = (("gone",), ("none",), ("value", truth(True)), ("value", truth(False)), ("value", number(1)), ("value", text("")),
           ("value", entity("user:bob")), ("value", entity("user:ann")), ("value", items()), ("above", ()),
           ("above", ("group:staff",)), ("above", ("group:other", "group:staff")))


def with_row(paper, at, row):
    return paper[:at] + (row,) + paper[at + 1:]


class PaperTest(Case):
    def setUp(self):
        self.base = Database(PLAN)

    def test_paper_of(self):
        self.exactly(paper_of(POLICIES, REQUEST, self.base), (DECISION, PAPER))
        self.exactly(paper_of(POLICIES, REQUEST, Told(PAPER)), (DECISION, PAPER))
        self.exactly(paper_of(tuple(reversed(POLICIES)), REQUEST, self.base), (DECISION, PAPER[3:] + PAPER[:3]))
        self.exactly(paper_of([], REQUEST, self.base), ((False, (), ()), ()))
        self.exactly(paper_of([("p", "permit", ANY, None, ANY, YES)], REQUEST, Told([])), ((True, ("p",), ()), ()))

    def test_a_source_that_lacks_a_read(self):
        for at in range(4):
            self.assertIsNone(paper_of(POLICIES, REQUEST, Told(PAPER[:at])))
            self.assertIsNone(paper_of(POLICIES, REQUEST, Told(PAPER[:at] + PAPER[at + 1:])))
        self.exactly(paper_of(POLICIES, REQUEST, Told([(BOB, ("above", ())), PAPER[3]])),
                     (DECISION, ((BOB, ("above", ())), PAPER[3])))

    def test_judge_right(self):
        self.exactly(judge(POLICIES, REQUEST, DECISION, PAPER), True)
        self.exactly(judge([], REQUEST, (False, (), ()), ()), True)
        self.exactly(judge(list(reversed(POLICIES)), REQUEST, DECISION, PAPER[3:] + PAPER[:3]), True)
        gone = ((BOB, ("above", ("group:staff",))), (OWNER, ("gone",)), (OPEN, ("gone",)))
        self.exactly(judge(POLICIES, REQUEST, (False, (), (("staff", "no entity"), ("shown", "no entity"))), gone), True)

    def test_judge_decisions(self):
        for decision in OTHER_DECISIONS:
            self.exactly(judge(POLICIES, REQUEST, decision, PAPER), False)

    def test_judge_rows(self):
        for at in range(4):
            self.exactly(judge(POLICIES, REQUEST, DECISION, PAPER[:at] + PAPER[at + 1:]), False)
            self.exactly(judge(POLICIES, REQUEST, DECISION, PAPER[:at]), False)
            for other in range(at):
                rows = list(PAPER)
                rows[at], rows[other] = rows[other], rows[at]
                self.exactly(judge(POLICIES, REQUEST, DECISION, tuple(rows)), False)
        more = [(("attribute", "doc:plan", "size"), ("none",)), (("ancestors", "doc:plan"), ("above", ()))]
        more += list(PAPER) + [(BOB, ("above", ())), (OPEN, ("value", truth(False)))]
        for row, at in itertools.product(more, range(5)):
            # A read that is there twice is one too many, wherever it stands.
            self.exactly(judge(POLICIES, REQUEST, DECISION, PAPER[:at] + (row,) + PAPER[at:]), False)
        self.exactly(judge(POLICIES, REQUEST, DECISION, PAPER + PAPER), False)
        self.exactly(judge([], REQUEST, (False, (), ()), PAPER[:1]), False)

    def test_judge_what_is_told(self):
        for at, told in itertools.product(range(4), ANSWERS):
            read, right = PAPER[at]
            if told == right:
                continue
            paper = with_row(PAPER, at, (read, told))
            # The same reads and the same decision follow from some other answers; then the paper is right.
            fits = (told[0] == "above") == (read[0] == "ancestors")
            wanted = fits and decide(POLICIES, REQUEST, Told(paper)) == (DECISION, [row[0] for row in PAPER], None)
            self.exactly(judge(POLICIES, REQUEST, DECISION, paper), wanted)
        for row, wanted in (((0, ("above", ("group:other", "group:staff"))), True), ((0, ("above", ())), False),
                            ((1, ("value", entity("user:ann"))), False), ((2, ("value", entity("user:cid"))), True),
                            ((2, ("value", number(7))), True), ((2, ("value", entity("user:bob"))), False),
                            ((2, ("none",)), False), ((3, ("value", truth(False))), False), ((3, ("gone",)), False)):
            self.exactly(judge(POLICIES, REQUEST, DECISION, with_row(PAPER, row[0], (PAPER[row[0]][0], row[1]))), wanted)

    def test_judge_other_requests_and_policies(self):
        self.exactly(judge(POLICIES, ("user:ann",) + REQUEST[1:], DECISION, PAPER), False)
        self.exactly(judge(POLICIES, REQUEST[:2] + ("doc:other", ()), DECISION, PAPER), False)
        self.exactly(judge(POLICIES[1:], REQUEST, DECISION, PAPER), False)
        self.exactly(judge(POLICIES[1:], REQUEST, DECISION, PAPER[3:]), True)
        self.exactly(judge(POLICIES + [("f", "forbid", ANY, None, ANY, YES)], REQUEST, DECISION, PAPER), False)
        self.exactly(judge(POLICIES + [("f", "forbid", ANY, None, ANY, NO)], REQUEST, DECISION, PAPER), True)

    def test_agrees(self):
        self.exactly(agrees(PAPER, self.base), True)
        self.exactly(agrees(PAPER, Told(list(reversed(PAPER)))), True)
        self.exactly(agrees((), Told([])), True)
        self.exactly(agrees(PAPER, Told([])), False)
        for at in range(4):
            self.exactly(agrees(PAPER, Told(PAPER[:at] + PAPER[at + 1:])), False)
            self.exactly(agrees(PAPER[:at], Told(PAPER[:at])), True)
            for told in ANSWERS:
                self.exactly(agrees(PAPER, Told(with_row(PAPER, at, (PAPER[at][0], told)))), told == PAPER[at][1])

    def test_the_paper_is_not_changed(self):
        policies, paper = list(POLICIES), tuple(PAPER)
        judge(policies, REQUEST, DECISION, paper)
        agrees(paper, self.base)
        paper_of(policies, REQUEST, self.base)
        self.exactly((policies, paper), (POLICIES, PAPER))

    def test_sources_that_agree(self):
        world = World(53)
        several = 0
        for _ in range(300):
            rows, request, base = world.policies(8), world.request(), world.database()
            decision, paper = paper_of(rows, request, base)
            self.exactly((decision, [read for read, _ in paper], None), decide(rows, request, base))
            self.exactly([told for _, told in paper], [base.tell(read) for read, _ in paper])
            self.exactly((judge(rows, request, decision, paper), agrees(paper, base)), (True, True))
            other = world.database()
            source = Recorder({**known_of(other, [("ancestors", request[0])]), **dict(paper)})
            for one in (source, Told(paper), base, other):
                if agrees(paper, one):
                    self.exactly(paper_of(rows, request, one), (decision, paper))
                    several += one is other
            if paper:
                at = world.random.randrange(len(paper))
                for wrong in (paper[:at] + paper[at + 1:], paper + paper[at:at + 1], paper[:at + 1] + paper[at:]):
                    self.exactly(judge(rows, request, decision, wrong), False)
        self.assertGreater(several, 10)


if __name__ == "__main__":
    unittest.main()
