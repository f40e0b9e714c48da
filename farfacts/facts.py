"""Facts: what was told to reads, from which version to which, and what is known of them."""

from farfacts.errors import OutOfRange, UnlikeFacts
from farfacts.names import are_rising, is_name, is_uid
from farfacts.values import is_value

VERSION_MOST = 100000


def is_read(read):
    """Whether the uid, and the name of an attribute, are within their bounds."""
    return is_uid(read[1]) and (read[0] == "ancestors" or is_name(read[2]))


def are_above(uids, uid):
    """Whether these can be the ancestors of the uid."""
    return all([is_uid(other) for other in uids]) and are_rising(uids) and uid not in uids


def fits(read, told):
    """Whether this can be told to the read."""
    if read[0] == "ancestors":
        return told[0] == "above" and are_above(told[1], read[1])
    if told[0] == "value":
        return is_value(told[1])
    return told in (("gone",), ("none",))


def is_version(number):
    """Whether the number can be a version."""
    return 0 <= number <= VERSION_MOST


def check_fact(fact):
    """Refuses what is not a fact within its bounds."""
    read, told, since, upto = fact
    if not is_read(read):
        raise OutOfRange("read")
    if not fits(read, told):
        raise OutOfRange("told")
    if not is_version(since) or not is_version(upto) or since > upto:
        raise OutOfRange("span")


def with_span(spans, span):
    """The rising spans of a read with one more, which becomes one with those that it continues."""
    since, upto, told = span
    apart = []
    for other in spans:
        if other[2] == told and other[0] <= upto + 1 and since <= other[1] + 1:
            since = min(since, other[0])
            upto = max(upto, other[1])
        else:
            apart.append(other)
    return sorted(apart + [(since, upto, told)], key=lambda one: one[0])


class Told:
    """A source that tells what rows of reads and what was told say, the first of them for each read."""

    def __init__(self, rows):
        self._answers = {}
        for read, told in rows:
            self._answers.setdefault(read, told)

    def tell(self, read):
        """What is told to the read, or None."""
        return self._answers.get(read)


class Known:
    """For each read what it is known to be told, as rising spans of versions."""

    def __init__(self):
        self._table = {}

    def learn(self, fact):
        """Adds a fact; whether it is new."""
        check_fact(fact)
        read, told, since, upto = fact
        spans = self.spans(read)
        for other in spans:
            if other[0] <= upto and since <= other[1] and other[2] != told:
                raise UnlikeFacts(f"from {other[0]} to {other[1]} something else is known")
        # Spans that tell the same are apart from each other, so versions that are all known lie within one of them.
        if any([other[0] <= since and upto <= other[1] for other in spans]):
            return False
        self._table[read] = with_span(spans, (since, upto, told))
        return True

    def _span_at(self, read, version):
        """The span of the read that contains the version, with what is told in it, or None."""
        for span in self._table.get(read, []):
            if span[0] <= version <= span[1]:
                return span
        return None

    def at(self, read, version):
        """What is told to the read at the version, or None."""
        span = self._span_at(read, version)
        return None if span is None else span[2]

    def span(self, read, version):
        """The versions around this one at which the same is told to the read, or None."""
        span = self._span_at(read, version)
        return None if span is None else span[:2]

    def spans(self, read):
        """The list of the spans of the read, rising."""
        return list(self._table.get(read, []))

    def reads(self):
        """The list of the reads of which something is known, rising."""
        return sorted(self._table)

    def facts(self):
        """The list of all facts, by rising reads and spans."""
        return [(read, told, since, upto) for read in self.reads() for since, upto, told in self._table[read]]

    def newest(self):
        """The greatest version at which something is known, or -1."""
        return max([spans[-1][1] for spans in self._table.values()], default=-1)

    def view(self, version):
        """A source that tells what is known at the version."""
        return View(self, version)

    def duplicate(self):
        """A new Known that knows the same."""
        other = Known()
        other._table = {read: self.spans(read) for read in self._table}
        return other


class View:
    """What is known at a version, now and later."""

    def __init__(self, known, version):
        self._known = known
        self._version = version

    def tell(self, read):
        """What is told to the read, or None if it is not known at the version."""
        return self._known.at(read, self._version)
