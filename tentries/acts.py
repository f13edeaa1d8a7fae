"""The calls on an object: each answers a list, the answered number first.

What was asked is noted by the asker and is not in these lists.
"""

from tentries.kept import LET_GO, MOST_TRIES, NOBODY, SOMEBODY, is_spoilt
from tentries.rows import P, comes_to

SOMEBODY_THERE = -1
NOBODY_THERE = -2
WRONG_MARK = -13
OUT_OF_RANGE = -22
NO_TRIES_LEFT = -28
SPOILT = -71
HIGHEST_NUMBER = 9999


def xor_bytes(some, others):
    """Each byte of some xor the one of others at its place."""
    return [one ^ other for one, other in zip(some, others)]


def name(asker, number):
    """The name of a number of four digits."""
    if number > HIGHEST_NUMBER:
        return [OUT_OF_RANGE]
    return [0, asker.ask_name(number)]


def seal(kept, asker, y, secret):
    """Puts the secret into the box, sealed by y."""
    if y >= P:
        return [OUT_OF_RANGE]
    pad = asker.ask_pad(y)
    mark = asker.ask_mark(y)
    kept.sealed = xor_bytes(secret, pad)
    kept.mark = mark
    return [0]


def open_box(kept, asker, y):
    """The pass, and what is sealed in the box, if it was sealed by y."""
    if y >= P:
        return [OUT_OF_RANGE]
    if asker.ask_mark(y) != kept.mark:
        return [WRONG_MARK]
    pad = asker.ask_pad(y)
    pass_told = asker.ask_pass(y)
    return [0, pass_told] + xor_bytes(kept.sealed, pad)


def new(kept, asker, x, script):
    """Lets the counter begin with a new row, and tells what it comes to at x."""
    if is_spoilt(kept):
        return [SPOILT]
    if x >= P:
        return [OUT_OF_RANGE]
    if kept.state == SOMEBODY:
        return [SOMEBODY_THERE]
    row = asker.ask_row(script)
    y = comes_to(row, x)
    kept.pass_told = asker.ask_pass(y)
    kept.row = row
    kept.tries = 0
    kept.state = SOMEBODY
    return [0, y]


def try_one(kept, x):
    """How many tries there still are, and what the row comes to at x."""
    if is_spoilt(kept):
        return [SPOILT]
    if x >= P:
        return [OUT_OF_RANGE]
    # Only nobody is refused: who was let go is tried on, as the promise has it.
    if kept.state == NOBODY:
        return [NOBODY_THERE]
    if kept.tries == MOST_TRIES:
        return [NO_TRIES_LEFT]
    # Counted ahead of the answer, so that no answer is given uncounted.
    kept.tries += 1
    return [MOST_TRIES - kept.tries, comes_to(kept.row, x)]


def free(kept, pass_told):
    """1 if the pass is the counter's, and lets go who is there; else 0."""
    if is_spoilt(kept):
        return [SPOILT]
    if kept.state == NOBODY:
        return [NOBODY_THERE]
    if kept.tries == MOST_TRIES:
        return [NO_TRIES_LEFT]
    if pass_told != kept.pass_told:
        # A wrong pass is counted as a try is, so that nobody can go on guessing.
        kept.tries += 1
        return [0]
    kept.state = LET_GO
    return [1]


def box(kept, mark, sealed):
    """The box is this one from now on, whoever put it there."""
    kept.mark = mark
    kept.sealed = list(sealed)
    return [0]


def counter(kept, pass_told, tries, state, row):
    """The counter is this one from now on, a spoilt one too."""
    kept.pass_told = pass_told
    kept.tries = tries
    kept.state = state
    kept.row = list(row)
    return [0]


def look(kept):
    """All that is kept: the box, then the counter."""
    told_box = [kept.mark] + kept.sealed
    told_counter = [kept.pass_told, kept.tries, kept.state] + kept.row
    return [0] + told_box + told_counter
