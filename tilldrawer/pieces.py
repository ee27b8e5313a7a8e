"""Tills: rising lists of pairs (value, count)."""

from tilldrawer.errors import NoCount, NoKind, NoTill, Twice

MOST_KINDS = 10
MOST_VALUE = 1000
MOST_COUNT = 1000000000


# The messages tell no numbers: Python refuses to write out very long ones.
def check_value(value):
    """Refuse a value that no kind can have."""
    if not 1 <= value <= MOST_VALUE:
        raise NoKind("the value of a kind is from 1 to 1000")


def check_count(count):
    """Refuse what is no count of pieces."""
    if not 0 <= count <= MOST_COUNT:
        raise NoCount("a count is from 0 to 1000000000")


def till_of(pairs):
    """The till that is made of pairs (value, count) in any order."""
    if not 1 <= len(pairs) <= MOST_KINDS:
        raise NoTill("a till has 1 to 10 kinds")
    seen = set()
    for value, count in pairs:
        check_value(value)
        if value in seen:
            raise Twice("a till has each kind once")
        check_count(count)
        seen.add(value)
    return sorted([(value, count) for value, count in pairs])


def worth(till):
    """What all pieces are worth."""
    return sum([value * count for value, count in till])


def pieces(till):
    """How many pieces there are."""
    return sum([count for _, count in till])


def count_of(till, value):
    """How many pieces of the kind with this value lie there."""
    for held, count in till:
        if held == value:
            return count
    raise NoKind("no kind has this value here")
