"""What an object keeps: a box and a counter."""

from tentries.asking import SEALED_LENGTH
from tentries.rows import P, ROW_LENGTH

NOBODY = 0
SOMEBODY = 1
LET_GO = 2
MOST_TRIES = 10


class Kept:
    """The box (mark, sealed) and the counter (pass_told, tries, state, row)."""

    def __init__(self):
        self.mark = 0
        self.sealed = [0] * SEALED_LENGTH
        self.pass_told = 0
        self.tries = 0
        self.state = NOBODY
        self.row = [0] * ROW_LENGTH


def is_spoilt(kept):
    """Whether the counter holds what it could never hold by new, try and free."""
    if kept.state > LET_GO or kept.tries > MOST_TRIES:
        return True
    for number in kept.row:
        if number >= P:
            return True
    return False
