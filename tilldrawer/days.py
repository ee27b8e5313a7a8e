"""A day: deeds that are done one behind the other, and their answers."""

from tilldrawer.deeds import brought, fetched, kind_in, kind_out, paid
from tilldrawer.errors import NoChange, NoCount, NoDeed, NoKind, NoSum, NoTill, StillHeld, TooFew, TooLittle, Twice


def day(till, deeds):
    """The till behind all deeds, and the answer to each."""
    behind = list(till)
    answers = []
    for deed in deeds:
        behind, answer = _answered(behind, deed)
        answers.append(answer)
    return behind, answers


def _answered(till, deed):
    """The till behind a deed and its answer; a refused one leaves the till as it was."""
    try:
        behind, change = _done(till, deed)
        return behind, ("done", change)
    except NoKind:
        word = "no kind"
    except Twice:
        word = "twice"
    except NoCount:
        word = "no count"
    except NoTill:
        word = "no till"
    except NoSum:
        word = "no sum"
    except TooLittle:
        word = "too little"
    except NoChange:
        word = "no change"
    except TooFew:
        word = "too few"
    except StillHeld:
        word = "still held"
    except NoDeed:
        word = "no deed"
    return till, (word, [])


def _done(till, deed):
    """The till behind a deed, and the change that it gives."""
    match deed:
        case ("paid", price, values):
            return paid(till, price, values)
        case ("brought", value, count):
            return brought(till, value, count), []
        case ("fetched", value, count):
            return fetched(till, value, count), []
        case ("in", value):
            return kind_in(till, value), []
        case ("out", value):
            return kind_out(till, value), []
        case _:
            raise NoDeed("no deed has this word")
