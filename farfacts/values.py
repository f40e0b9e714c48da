"""Values: scalars of four kinds, and sets of scalars."""

from farfacts.errors import OutOfRange
from farfacts.names import are_rising, is_name, is_uid

NUMBER_MOST = 1000000
TEXT_MOST = 40
SET_MOST = 8

# In the order in which the kinds of scalars stand in a set.
SCALARS = ("truth", "number", "text", "entity")
# Given by its code, since the sign itself stands in no string of the program.
PERCENT = 37


def is_sign(sign):
    """Whether the character can stand in a string at all."""
    return " " <= sign <= "~" and ord(sign) != PERCENT


def is_text(text):
    """Whether a string can be a text."""
    return len(text) <= TEXT_MOST and all([is_sign(sign) and sign != '"' for sign in text])


def scalar_place(scalar):
    """What the scalar is put in order by."""
    kind, what = scalar
    return SCALARS.index(kind), what


def scalar_before(one, two):
    """Whether one stands before two in the order of scalars."""
    return scalar_place(one) < scalar_place(two)


def is_scalar(value):
    """Whether this is a scalar within its bounds."""
    kind, what = value
    if kind == "truth":
        return what in (False, True)
    if kind == "number":
        return -NUMBER_MOST <= what <= NUMBER_MOST
    if kind == "text":
        return is_text(what)
    return kind == "entity" and is_uid(what)


def are_items(scalars):
    """Whether these can be the items of a set, as they stand."""
    if len(scalars) > SET_MOST or not all([is_scalar(scalar) for scalar in scalars]):
        return False
    return all([scalar_before(one, two) for one, two in zip(scalars, scalars[1:])])


def is_value(value):
    """Whether this is a value within its bounds."""
    kind, what = value
    return are_items(what) if kind == "set" else is_scalar(value)


def check_value(value, what="value"):
    """Refuses what is not a value within its bounds."""
    if not is_value(value):
        raise OutOfRange(what)


def make_set(scalars):
    """The set of a list of scalars."""
    if not all([is_scalar(scalar) for scalar in scalars]):
        raise OutOfRange("set")
    items = []
    for scalar in sorted(scalars, key=scalar_place):
        if not items or items[-1] != scalar:
            items.append(scalar)
    if len(items) > SET_MOST:
        raise OutOfRange("set")
    return ("set", tuple(items))


def write_value(value):
    """The value as a text."""
    kind, what = value
    if kind == "set":
        return "(" + " ".join(["set"] + [write_value(item) for item in what]) + ")"
    if kind == "truth":
        return "yes" if what else "no"
    if kind == "number":
        return str(what)
    if kind == "text":
        return '"' + what + '"'
    return "@" + what


def value_named(pairs, name):
    """The value of the pair with this name, or None."""
    for known, value in pairs:
        if known == name:
            return value
    return None


def are_pairs(pairs, most):
    """Whether these are at most so many pairs of a name and a value, with rising names."""
    names = [pair[0] for pair in pairs]
    if len(pairs) > most or not all([is_name(name) for name in names]):
        return False
    return are_rising(names) and all([is_value(pair[1]) for pair in pairs])
