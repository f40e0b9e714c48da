"""Slices: the part of a database that a manifest names for a request."""

from farfacts.databases import Database
from farfacts.following import named_reads


def names_of(reads):
    """For each uid of which an attribute is read, the list of the names that are read."""
    table = {}
    for read in reads:
        if read[0] == "attribute":
            table.setdefault(read[1], []).append(read[2])
    return table


def hierarchy(database, reads):
    """A dict of the uids of which the ancestors are read, and of all these ancestors."""
    uids = {}
    for read in reads:
        if read[0] == "ancestors":
            uids[read[1]] = True
            for above in database.ancestors(read[1]):
                uids[above] = True
    return uids


def slice_of(database, request, manifest):
    """The database of what the manifest names for the request."""
    reads = named_reads(manifest, request, database)
    table = names_of(reads)
    above = hierarchy(database, reads)
    entities = []
    for uid, attributes, parents in database.entities():
        if uid in table or uid in above:
            names = table.get(uid, [])
            kept = tuple([pair for pair in attributes if pair[0] in names])
            entities.append((uid, kept, parents if uid in above else ()))
    return Database(entities)
