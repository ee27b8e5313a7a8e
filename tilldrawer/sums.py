"""Sums that the pieces of a till make, and the change for a sum."""

from tilldrawer.errors import NoChange, NoSum

MOST_SUM = 1000


def check_sum(due):
    """Refuse what is no sum."""
    if not 0 <= due <= MOST_SUM:
        raise NoSum("a sum is from 0 to 1000")


def table(till, most):
    """The least counts of pieces for each sum up to one: a row for each number of kinds."""
    check_sum(most)
    row = [0] + [None] * most
    rows = [row]
    for value, count in till:
        row = with_kind(row, value, count)
        rows.append(row)
    return rows


def sums(till, most):
    """All sums up to a sum that pieces of the till make, rising."""
    rows = table(till, most)
    return [due for due, least in enumerate(rows[-1]) if least is not None]


def fewest(till, due):
    """The change for a sum: a rising list of pairs (value, count)."""
    rows = table(till, due)
    if rows[-1][due] is None:
        raise NoChange("no pieces that lie there make this sum")
    change = []
    left = due
    for at in reversed(range(len(till))):
        value, count = till[at]
        given = _most_given(rows[at], left, rows[at + 1][left], value, count)
        if given > 0:
            change.append((value, given))
            left -= given * value
    return change[::-1]


def with_kind(row, value, count):
    """The row behind this one, of one kind more: each of up to so many pieces moves up by the value."""
    out = list(row)
    usable = min(count, (len(row) - 1) // value)
    for size in _bundles(usable):
        out = _with_bundle(out, size * value, size)
    return out


def _bundles(count):
    """Sizes of bundles, so that each number of pieces up to the count is some bundles together.

    A few bundles that are taken or left replace trying each number of pieces,
    which would be slow where many pieces of a small value lie.
    """
    sizes = []
    size = 1
    while count > 0:
        taken = min(size, count)
        sizes.append(taken)
        count -= taken
        size *= 2
    return sizes


def _with_bundle(row, value, size):
    """The row if a bundle of so many pieces, worth the value in all, may be given too."""
    out = list(row)
    for due in range(value, len(row)):
        # The old row is read, not the new one: the bundle is there just once.
        rest = row[due - value]
        if rest is not None and (out[due] is None or rest + size < out[due]):
            out[due] = rest + size
    return out


def _most_given(row, due, least, value, count):
    """The most pieces of a kind in a way of the least pieces; the row is of the kinds before it."""
    for given in range(min(count, due // value), 0, -1):
        if row[due - given * value] == least - given:
            return given
    return 0
