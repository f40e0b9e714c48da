"""Papers: what a decision depends on, so that it can be judged without the data."""

from farfacts.deciding import decide
from farfacts.facts import Told, fits


def paper_of(policies, request, source):
    """The decision over the source and its paper, or None if there is a need."""
    decision, reads, need = decide(policies, request, source)
    if need is not None:
        return None
    return (decision, tuple([(read, source.tell(read)) for read in reads]))


def judge(policies, request, decision, paper):
    """Whether the paper is right for the decision of the policies on the request."""
    # No source tells what does not fit its read, and deciding relies on this.
    if not all([fits(read, told) for read, told in paper]):
        return False
    found, reads, need = decide(policies, request, Told(paper))
    return need is None and found == decision and reads == [read for read, _ in paper]


def agrees(paper, source):
    """Whether the source tells every read of the paper as the paper does."""
    return all([source.tell(read) == told for read, told in paper])
