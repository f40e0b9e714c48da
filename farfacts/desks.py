"""Desks: they learn facts and decide, and tell at which versions a decision holds."""

from farfacts.errors import NoSession, OutOfRange
from farfacts.facts import VERSION_MOST, Known, is_version
from farfacts.papers import paper_of
from farfacts.sessions import Session

SESSIONS_MOST = 20


class Desk:
    """Policies, facts that are known, and sessions over them."""

    def __init__(self, policies):
        self._policies = list(policies)
        self._known = Known()
        self._sessions = []

    def begin(self, request, mode):
        """Begins a session; its number."""
        session = Session(self._policies, request, mode)
        if len(self._sessions) >= SESSIONS_MOST:
            raise OutOfRange("sessions")
        self._sessions.append(session)
        return len(self._sessions) - 1

    def version(self):
        """The newest version that is known, or 0."""
        return max(self._known.newest(), 0)

    def learn(self, facts):
        """Learns all facts of a list, or none; how many were new."""
        known = self._known.duplicate()
        news = [known.learn(fact) for fact in facts]
        self._known = known
        return news.count(True)

    def known(self):
        """A copy of what is known."""
        return self._known.duplicate()

    def _session(self, number):
        """The session with this number."""
        if not 0 <= number < len(self._sessions):
            raise NoSession(f"there is no session {number}")
        return self._sessions[number]

    def _view(self):
        """What is known at the version of the desk."""
        return self._known.view(self.version())

    def asks(self, number):
        """The list of the reads that the session asks for."""
        return self._session(number).asks(self._view())

    def renew(self, number):
        """The list of the reads of deciding, so that they can be asked for again."""
        return self._session(number).reads(self._view())

    def told(self, number):
        """The decision at the version of the desk, with the span in which it holds, or None."""
        return self.told_at(number, self.version())

    def told_at(self, number, version):
        """The decision at the version, with the span in which it holds, or None."""
        session = self._session(number)
        if not is_version(version):
            raise OutOfRange("version")
        view = self._known.view(version)
        decision = session.decision(view)
        if decision is None:
            return None
        spans = [self._known.span(read, version) for read in session.reads(view)]
        since = max([span[0] for span in spans], default=0)
        upto = min([span[1] for span in spans], default=VERSION_MOST)
        return (decision, since, upto)

    def paper(self, number):
        """The paper of the decision at the version of the desk, or None."""
        session = self._session(number)
        found = paper_of(session.policies(), session.request, self._view())
        return None if found is None else found[1]
