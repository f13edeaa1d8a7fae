"""A second telling of what an object answers, for long lists of calls of all kinds.

It works on whole calls and puts a new counter in the old one's place, never a
number of it, so that it doesn't share its faults with the program.
"""

from lines import NEW_BOX, NEW_COUNTER, P, looked, told_mark, told_pad, told_pass, told_row, xored


class Model:
    """One object, which answers a call at a time: (kind, what it is handed)."""

    def __init__(self):
        self.box = NEW_BOX
        self.counter = NEW_COUNTER

    def spoilt(self):
        pass_told, tries, state, row = self.counter
        return state not in (0, 1, 2) or tries not in range(11) or max(row) >= P

    def asks_for_a_row(self, x):
        return not self.spoilt() and x < P and self.counter[2] != 1

    def answer(self, kind, *handed):
        return getattr(self, "answer_" + kind)(*handed)

    def answer_name(self, number):
        return [-22, 0] if number >= 10000 else [0, 1_000_003 * number + 12_345, 1, 1, number]

    def answer_seal(self, y, secret):
        if y >= P:
            return [-22, 0]
        self.box = (told_mark(y), xored(secret, told_pad(y)))
        return [0, 2, 2, y, 3, y]

    def answer_open_box(self, y):
        if y >= P:
            return [-22, 0]
        mark, sealed = self.box
        if told_mark(y) != mark:
            return [-13, 1, 3, y]
        return [0, told_pass(y)] + xored(sealed, told_pad(y)) + [3, 3, y, 2, y, 4, y]

    def answer_new(self, x, script):
        if self.spoilt():
            return [-71, 0]
        if x >= P:
            return [-22, 0]
        if self.counter[2] == 1:
            return [-1, 0]
        y = told_row(script, x)
        self.counter = (told_pass(y), 0, 1, script)
        return [0, y, 12] + [5] * 11 + [4, y]

    def answer_try_one(self, x):
        pass_told, tries, state, row = self.counter
        if self.spoilt():
            return [-71, 0]
        if x >= P:
            return [-22, 0]
        if state == 0:
            return [-2, 0]
        if tries == 10:
            return [-28, 0]
        self.counter = (pass_told, tries + 1, state, row)
        return [9 - tries, told_row(row, x), 0]

    def answer_free(self, handed):
        pass_told, tries, state, row = self.counter
        if self.spoilt():
            return [-71, 0]
        if state == 0:
            return [-2, 0]
        if tries == 10:
            return [-28, 0]
        if handed == pass_told:
            self.counter = (pass_told, tries, 2, row)
            return [1, 0]
        self.counter = (pass_told, tries + 1, state, row)
        return [0, 0]

    def answer_box(self, mark, sealed):
        self.box = (mark, sealed)
        return [0]

    def answer_counter(self, pass_told, tries, state, row):
        self.counter = (pass_told, tries, state, row)
        return [0]

    def answer_look(self):
        return looked(self.box, self.counter)
