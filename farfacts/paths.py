"""Paths: where in the data an expression looks, told by the expression alone."""

from farfacts.expressions import PARTS


def split_path(path):
    """The root of the path, and the tuple of the names behind it."""
    parts = path.split(".")
    # Of a value of the context, the first name belongs to the root.
    first = 2 if parts[0] == "context" else 1
    return (".".join(parts[:first]), tuple(parts[first:]))


def once(paths):
    """The tuple of the paths, each once, in the order in which they are met."""
    found = {}
    for path in paths:
        found[path] = True
    return tuple(found)


def led_on(paths, name):
    """The paths, each with a dot and the name."""
    return tuple([path + "." + name for path in paths])


def paths_of_node(node, paths):
    """The paths of the node, where those of the nodes before it are given."""
    kind = node[0]
    if kind in PARTS:
        return (kind,)
    if kind == "value" and node[1][0] == "entity":
        return (node[1][1],)
    if kind == "context":
        return ("context." + node[1],)
    if kind == "get":
        return led_on(paths[node[1]], node[2])
    if kind == "if":
        return once(paths[node[2]] + paths[node[3]])
    return ()


def node_paths(expression):
    """For each node, the tuple of the paths along which its value is found if it is an entity."""
    paths = []
    for node in expression:
        paths.append(paths_of_node(node, paths))
    return paths


def expression_manifest(expression):
    """The paths of the attributes, and of the ancestors, that the expression can read."""
    paths = node_paths(expression)
    attributes = []
    ancestors = []
    for node in expression:
        if node[0] in ("get", "has"):
            attributes.extend(led_on(paths[node[1]], node[2]))
        if node[0] == "in":
            ancestors.extend(paths[node[1]])
    return (once(attributes), once(ancestors))
