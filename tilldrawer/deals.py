"""Deals: a purse pays and the till gives back, by the fewest pieces in all."""

from tilldrawer.errors import NoChange, NoKind, NoSum
from tilldrawer.pieces import worth
from tilldrawer.sums import check_sum, with_kind

MOST_WORTH = 1500


def scales(till, purse):
    """The fewest pieces of ways to deal for each worth: a row for each number of kinds."""
    _check_purse(till, purse)
    below = worth(till)
    above = worth(purse)
    if below + above > MOST_WORTH:
        raise NoSum("a till and a purse are worth up to 1500 together")
    held = dict(purse)
    row = [None] * below + [0] + [None] * above
    rows = [row]
    for value, lies in till:
        row = _with_numbers(row, value, lies, held.get(value, 0))
        rows.append(row)
    return rows


def deal(till, purse, price):
    """What is paid and what is given back for a price: two rising lists of pairs (value, count)."""
    check_sum(price)
    rows = scales(till, purse)
    place = worth(till) + price
    if place >= len(rows[-1]) or rows[-1][place] is None:
        raise NoChange("no way to deal is worth the price")
    way = _best_way(rows, till, purse, place)
    handed = [(value, number) for value, number in way if number > 0]
    back = [(value, -number) for value, number in way if number < 0]
    return handed, back


def _check_purse(till, purse):
    """Refuse a purse of a kind that the till hasn't."""
    there = dict(till)
    for value, _ in purse:
        if value not in there:
            raise NoKind("the till has no kind with this value")


def _with_numbers(row, value, lies, held):
    """The row behind this one, of one kind more, of which pieces lie in the till and in the purse."""
    # Ways that both pay and give back pieces of this kind come in too, but never
    # are the fewest: with one piece less on both sides the worth is the same.
    paying = with_kind(row, value, held)
    # What is given back moves down, which is up where the row is turned round.
    return with_kind(paying[::-1], value, lies)[::-1]


def _best_way(rows, till, purse, place):
    """The deal's number of each kind, as pairs (value, number), rising."""
    held = dict(purse)
    way = []
    for at in reversed(range(len(till))):
        value, lies = till[at]
        number = _greatest_number(rows[at], rows[at + 1][place], place, value, lies, held.get(value, 0))
        way.append((value, number))
        place -= number * value
    return way[::-1]


def _greatest_number(row, least, place, value, lies, held):
    """The greatest number of a kind in a way of the least pieces; the row is of the kinds before it."""
    # Places ahead of the row must not be read: they would be taken from its end.
    lowest = -min(lies, (len(row) - 1 - place) // value)
    highest = min(held, place // value)
    return max([
        number
        for number in range(lowest, highest + 1)
        if row[place - number * value] == least - abs(number)
    ])
