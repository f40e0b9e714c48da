"""Questions about all entities of a kind at once."""

from farfacts.deciding import decide
from farfacts.errors import OutOfRange
from farfacts.names import check_name, kind_of
from farfacts.requests import check_request, with_part


def permitted(policies, part, request, kind, database):
    """The rising list of the entities of the kind for which, as this part of the request, it is allowed."""
    if part not in ("principal", "resource"):
        raise OutOfRange("part")
    check_name(kind, "kind")
    check_request(request)
    found = []
    for entity in database.entities():
        uid = entity[0]
        if kind_of(uid) == kind:
            decision, _, _ = decide(policies, with_part(request, part, uid), database)
            if decision[0]:
                found.append(uid)
    return found
