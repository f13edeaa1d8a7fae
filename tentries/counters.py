"""The answers to a list of calls on one new object."""

from tentries.acts import name, new, open_box, seal, try_one
from tentries.asking import Asker
from tentries.kept import Kept
from tentries.reading import Reader

NAME = 0
SEAL = 1
OPEN_BOX = 2
NEW = 3
TRY_ONE = 4


class UnknownCall(ValueError):
    """The number of a call is none that can be called."""


def told_by_call(kept, asker, reader):
    """Reads one call and does it: what it tells, without what was asked."""
    call = reader.next_number()
    if call == NAME:
        return name(asker, reader.next_number())
    if call == SEAL:
        y = reader.next_number()
        return seal(kept, asker, y, reader.next_row())
    if call == OPEN_BOX:
        return open_box(kept, asker, reader.next_number())
    if call == NEW:
        x = reader.next_number()
        return new(kept, asker, x, reader.next_row())
    if call == TRY_ONE:
        return try_one(kept, reader.next_number())
    raise UnknownCall(f"no call has the number {call}")


def answer_call(kept, reader):
    """The whole answer of the next call: what it tells, then what was asked."""
    asker = Asker()
    told = told_by_call(kept, asker, reader)
    return told + [asker.how_many] + asker.asked


def answers(calls):
    """For each call, in order: how many numbers are answered, then these."""
    kept = Kept()
    reader = Reader(calls)
    given = []
    while reader.has_more():
        answer = answer_call(kept, reader)
        given.append(len(answer))
        given.extend(answer)
    return given
