"""What a call asks for: names, pads, marks, passes and new rows."""

from tentries.rows import ROW_LENGTH

SEALED_LENGTH = 64
WORD = 18446744073709551616


def name_of(number):
    """The name of a number."""
    return 1000003 * number + 12345


def pad_of(y):
    """The pad of y: 64 bytes."""
    # A shift by 8 divides by 256 and rounds down.
    return [((y >> (8 * (i % 8))) + i) % 256 for i in range(SEALED_LENGTH)]


def mark_of(y):
    """The mark of y: below 2^64."""
    return (6364136223846793005 * y + 1442695040888963407) % WORD


def pass_of(y):
    """The pass of y: below 2^64."""
    return (2862933555777941757 * y + 3037000493) % WORD


class Asker:
    """Asks for one call, and notes all that was asked, in order.

    What is noted begins with its number: 1 a name, 2 a pad, 3 a mark, 4 a
    pass, 5 one number of a row.
    """

    def __init__(self):
        self.how_many = 0
        self.asked = []

    def note(self, thing):
        self.how_many += 1
        self.asked.extend(thing)

    def ask_name(self, number):
        self.note([1, number])
        return name_of(number)

    def ask_pad(self, y):
        self.note([2, y])
        return pad_of(y)

    def ask_mark(self, y):
        self.note([3, y])
        return mark_of(y)

    def ask_pass(self, y):
        self.note([4, y])
        return pass_of(y)

    def ask_row(self, script):
        """A new row, which stands in script, asked for number by number."""
        row = []
        for i in range(ROW_LENGTH):
            self.note([5])
            row.append(script[i])
        return row
