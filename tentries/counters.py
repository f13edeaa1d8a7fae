"""The answers to a list of calls on one new object."""

from tentries.acts import box, counter, free, look, name, new, open_box, seal, try_one
from tentries.asking import Asker
from tentries.kept import Kept
from tentries.reading import Reader

NAME = 0
SEAL = 1
OPEN_BOX = 2
NEW = 3
TRY_ONE = 4
FREE = 5
BOX = 6
COUNTER = 7
LOOK = 8


class UnknownCall(ValueError):
    """The number of a call is none that can be called."""


def put_counter(kept, reader):
    """Reads a counter and puts it there."""
    pass_told = reader.next_number()
    tries = reader.next_number()
    state = reader.next_number()
    return counter(kept, pass_told, tries, state, reader.next_row())


def told_by_call(call, kept, asker, reader):
    """Reads the rest of a call and does it: what it tells, without what was asked."""
    if call == NAME:
        return name(asker, reader.next_number())
    if call == SEAL:
        y = reader.next_number()
        return seal(kept, asker, y, reader.next_row())
    if call == OPEN_BOX:
        return open_box(kept, asker, reader.next_number())
    if call == NEW:
        x = reader.next_number()
        return new(kept, asker, x, reader.next_row())
    if call == TRY_ONE:
        return try_one(kept, reader.next_number())
    if call == FREE:
        return free(kept, reader.next_number())
    if call == BOX:
        mark = reader.next_number()
        return box(kept, mark, reader.next_row())
    if call == COUNTER:
        return put_counter(kept, reader)
    if call == LOOK:
        return look(kept)
    raise UnknownCall(f"no call has the number {call}")


def answer_call(kept, reader):
    """The whole answer of the next call: what it tells, then what was asked."""
    call = reader.next_number()
    asker = Asker()
    told = told_by_call(call, kept, asker, reader)
    # These three tell nothing of what was asked, not even that it was nothing.
    if call in (BOX, COUNTER, LOOK):
        return told
    return told + [asker.how_many] + asker.asked


def answers(calls):
    """For each call, in order: how many numbers are answered, then these."""
    kept = Kept()
    reader = Reader(calls)
    given = []
    while reader.has_more():
        answer = answer_call(kept, reader)
        given.append(len(answer))
        given.extend(answer)
    return given
