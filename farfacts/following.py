"""Paths, followed for a request over a source, and the reads to which they lead."""

from farfacts.evaluating import join_reads
from farfacts.expressions import PARTS
from farfacts.paths import split_path
from farfacts.requests import context_value


def entity_of(value):
    """The uid that the value is, or None."""
    return value[1] if value is not None and value[0] == "entity" else None


def root_uid(root, request):
    """The uid at which the root is, or None."""
    if root in PARTS:
        return request[PARTS.index(root)]
    if root.startswith("context."):
        return entity_of(context_value(request, root.partition(".")[2]))
    return root


def follow(root, names, request, source):
    """Where the names lead from the root."""
    uid = root_uid(root, request)
    for name in names:
        if uid is None:
            break
        read = ("attribute", uid, name)
        told = source.tell(read)
        if told is None:
            return ("needs", read)
        uid = entity_of(told[1]) if told[0] == "value" else None
    return ("nowhere",) if uid is None else ("to", uid)


def end_of(path, request, source):
    """Where the path leads."""
    root, names = split_path(path)
    return follow(root, names, request, source)


def named_reads(manifest, request, database):
    """The list of the reads that the manifest names."""
    attributes, ancestors = manifest
    reads = []
    for path in attributes:
        root, names = split_path(path)
        end = follow(root, names[:-1], request, database)
        if end[0] == "to":
            reads.append(("attribute", end[1], names[-1]))
    for path in ancestors:
        end = end_of(path, request, database)
        if end[0] == "to":
            reads.append(("ancestors", end[1]))
    # Several paths may lead to one read.
    return join_reads([], reads)


def next_reads(manifest, request, source):
    """The list of the reads that the source must know next, so that the paths of the manifest lead on."""
    attributes, ancestors = manifest
    reads = []
    for path in attributes:
        end = end_of(path, request, source)
        if end[0] == "needs":
            reads.append(end[1])
    for path in ancestors:
        end = end_of(path, request, source)
        if end[0] == "needs":
            reads.append(end[1])
        if end[0] == "to" and source.tell(("ancestors", end[1])) is None:
            reads.append(("ancestors", end[1]))
    return join_reads([], reads)
