"""Databases: entities with attributes and parents, and the changes of them."""

from farfacts.errors import ChangeRefused, OutOfRange
from farfacts.names import are_uids, is_name, is_uid
from farfacts.values import are_pairs, is_value, value_named

ENTITIES_MOST = 40
ATTRIBUTES_MOST = 8
PARENTS_MOST = 6
CHANGES_MOST = 8


def entity_fault(entity):
    """The first part of the entity that is out of its bounds, or None."""
    uid, attributes, parents = entity
    if not is_uid(uid):
        return "uid"
    if not are_pairs(attributes, ATTRIBUTES_MOST):
        return "attributes"
    return None if are_uids(parents, PARENTS_MOST) else "parents"


def check_entity(entity):
    """Refuses what is not an entity within its bounds."""
    fault = entity_fault(entity)
    if fault is not None:
        raise OutOfRange(fault)


def change_fault(change):
    """The first part of the change that is out of its bounds, or None."""
    kind = change[0]
    if not is_uid(change[1]):
        return "uid"
    if kind in ("make", "under") and not are_uids(change[2], PARENTS_MOST):
        return "parents"
    if kind in ("set", "clear") and not is_name(change[2]):
        return "name"
    if kind == "set" and not is_value(change[3]):
        return "value"
    return None


def check_change(change):
    """Refuses what is not a change within its bounds."""
    fault = change_fault(change)
    if fault is not None:
        raise OutOfRange(fault)


def check_changes(changes):
    """Refuses what is not a transaction within its bounds."""
    if not 1 <= len(changes) <= CHANGES_MOST:
        raise OutOfRange("changes")
    if not all([change_fault(change) is None for change in changes]):
        raise OutOfRange("changes")


def refusal(change, entity, many):
    """Why the change of this entity (None if there is none) among so many cannot be made, or None."""
    kind = change[0]
    if kind == "make":
        if entity is not None:
            return "entity exists"
        return "too many entities" if many >= ENTITIES_MOST else None
    if entity is None:
        return "no such entity"
    names = [pair[0] for pair in entity[1]]
    if kind == "set" and change[2] not in names and len(names) >= ATTRIBUTES_MOST:
        return "too many attributes"
    if kind == "clear" and change[2] not in names:
        return "no such attribute"
    return None


def changed_entity(change, entity):
    """The entity after a change that can be made, or None if it is dropped."""
    kind, uid = change[0], change[1]
    if kind == "drop":
        return None
    if kind == "make":
        return (uid, (), change[2])
    if kind == "under":
        return (uid, entity[1], change[2])
    pairs = [pair for pair in entity[1] if pair[0] != change[2]]
    if kind == "set":
        pairs.append((change[2], change[3]))
    return (uid, tuple(sorted(pairs, key=lambda pair: pair[0])), entity[2])


class Database:
    """Entities with different uids. It never changes: a transaction makes a new one."""

    def __init__(self, entities):
        self._table = {}
        if len(entities) > ENTITIES_MOST:
            raise OutOfRange("entities")
        for entity in entities:
            if entity_fault(entity) is not None or entity[0] in self._table:
                raise OutOfRange("entities")
            self._table[entity[0]] = entity

    def entities(self):
        """The list of the entities, by rising uids."""
        return [self._table[uid] for uid in sorted(self._table)]

    def many(self):
        """How many entities there are."""
        return len(self._table)

    def has(self, uid):
        """Whether there is an entity with this uid."""
        return uid in self._table

    def attribute(self, uid, name):
        """The value of this attribute of the entity, or None."""
        return value_named(self._table[uid][1], name) if uid in self._table else None

    def parents(self, uid):
        """The parents of the uid, which may be no entity."""
        return self._table[uid][2] if uid in self._table else ()

    def ancestors(self, uid):
        """All other uids that are reached from the uid over parents, rising."""
        above = {}
        waiting = [uid]
        while waiting:
            here = waiting.pop()
            for parent in self.parents(here):
                if parent not in above:
                    above[parent] = True
                    waiting.append(parent)
        return tuple([other for other in sorted(above) if other != uid])

    def within(self, uid, other):
        """Whether the uid is the other one or below it."""
        return uid == other or other in self.ancestors(uid)

    def tell(self, read):
        """What is told to the read."""
        if read[0] == "ancestors":
            return ("above", self.ancestors(read[1]))
        if not self.has(read[1]):
            return ("gone",)
        value = self.attribute(read[1], read[2])
        return ("none",) if value is None else ("value", value)

    def same(self, other):
        """Whether the other database has the same entities."""
        return self.entities() == other.entities()

    def changed(self, changes):
        """The database after the transaction."""
        check_changes(changes)
        table = dict(self._table)
        for number, change in enumerate(changes):
            uid = change[1]
            entity = table.get(uid)
            words = refusal(change, entity, len(table))
            if words is not None:
                raise ChangeRefused(number, words)
            after = changed_entity(change, entity)
            if after is None:
                del table[uid]
            else:
                table[uid] = after
        return Database(list(table.values()))
