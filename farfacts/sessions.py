"""Sessions: requests that are decided bit by bit, while the data that they need become known."""

from farfacts.deciding import decide
from farfacts.errors import OutOfRange
from farfacts.following import next_reads
from farfacts.manifests import manifest
from farfacts.policies import can_apply
from farfacts.requests import check_request, request_kind

MODES = ("lazy", "batch")


class Session:
    """A request, the policies that can apply to its kind, and how they ask for data."""

    def __init__(self, policies, request, mode):
        check_request(request)
        if mode not in MODES:
            raise OutOfRange("mode")
        self.request = request
        self.mode = mode
        self._kind = request_kind(request)
        self._policies = [policy for policy in policies if can_apply(policy, self._kind)]

    def policies(self):
        """The list of the policies that can apply."""
        return list(self._policies)

    def manifest(self):
        """The manifest of the policies for the kind of the request."""
        return manifest(self._policies, self._kind)

    def asks(self, source):
        """The list of the reads that the session asks for over the source."""
        if self.mode == "batch":
            return next_reads(self.manifest(), self.request, source)
        _, _, need = decide(self._policies, self.request, source)
        return [] if need is None else [need]

    def decision(self, source):
        """The decision over the source, or None if there is a need."""
        decision, _, _ = decide(self._policies, self.request, source)
        return decision

    def reads(self, source):
        """The list of the reads of deciding over the source, as far as it goes."""
        _, reads, _ = decide(self._policies, self.request, source)
        return reads
