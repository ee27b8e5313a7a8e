"""Deeds: what changes the till, each giving the till behind."""

from tilldrawer.errors import NoCount, NoTill, StillHeld, TooFew, TooLittle, Twice
from tilldrawer.pieces import MOST_KINDS, check_count, check_value, count_of
from tilldrawer.sums import check_sum, fewest

MOST_PAID = 60


def paid(till, price, values):
    """The till behind a price that is paid by these pieces, and the change."""
    check_sum(price)
    if len(values) > MOST_PAID:
        raise NoCount("a price is paid by up to 60 pieces")
    filled = till
    for value in values:
        filled = brought(filled, value, 1)
    over = sum(values) - price
    if over < 0:
        raise TooLittle("less is paid than the price")
    change = fewest(filled, over)
    given = dict(change)
    behind = [(value, count - given.get(value, 0)) for value, count in filled]
    return behind, change


def brought(till, value, count):
    """The till behind so many pieces of a kind that are put in."""
    lies = count_of(till, value)
    check_count(count)
    check_count(lies + count)
    return _with_count(till, value, lies + count)


def fetched(till, value, count):
    """The till behind so many pieces of a kind that are taken out."""
    lies = count_of(till, value)
    check_count(count)
    if count > lies:
        raise TooFew("fewer pieces of this kind lie there")
    return _with_count(till, value, lies - count)


def kind_in(till, value):
    """The till with one kind more, of which no piece lies there."""
    check_value(value)
    if value in [held for held, _ in till]:
        raise Twice("the till has this kind already")
    if len(till) >= MOST_KINDS:
        raise NoTill("a till has up to 10 kinds")
    return sorted(till + [(value, 0)])


def kind_out(till, value):
    """The till with one kind less, of which no piece lay there."""
    if count_of(till, value) > 0:
        raise StillHeld("pieces of this kind lie there still")
    if len(till) == 1:
        raise NoTill("a till has at least one kind")
    return [(held, count) for held, count in till if held != value]


def _with_count(till, value, count):
    """The till with another count of one kind."""
    return [(held, count if held == value else lies) for held, lies in till]
