"""Names, and the uids that are made of two of them."""

from farfacts.errors import OutOfRange

NAME_MOST = 12
SIGNS = "abcdefghijklmnopqrstuvwxyz0123456789"


def is_name(text):
    """Whether the text is a name."""
    return 1 <= len(text) <= NAME_MOST and all([sign in SIGNS for sign in text])


def is_uid(text):
    """Whether the text is a uid."""
    parts = text.split(":")
    return len(parts) == 2 and is_name(parts[0]) and is_name(parts[1])


def kind_of(uid):
    """The kind of the entity that the uid names."""
    return uid.partition(":")[0]


def id_of(uid):
    """The id, within its kind, of the entity that the uid names."""
    return uid.partition(":")[2]


def check_name(text, what="name"):
    """Refuses a text that is not a name."""
    if not is_name(text):
        raise OutOfRange(what)


def check_uid(text, what="uid"):
    """Refuses a text that is not a uid."""
    if not is_uid(text):
        raise OutOfRange(what)


def are_rising(texts):
    """Whether each text is greater than the one before it."""
    return all([one < two for one, two in zip(texts, texts[1:])])


def are_uids(texts, most):
    """Whether the texts are at most so many rising uids."""
    return len(texts) <= most and all([is_uid(text) for text in texts]) and are_rising(texts)
