"""Helps the tests: lists of calls, their answers taken apart, and told values."""

from tentries.counters import answers

P = 2 ** 61 - 1
TOP = 2 ** 64 - 1
SECRET = [(7 * i + 3) % 256 for i in range(64)]
SCRIPT = [1234567890123456789, 2, 3, 5, 7, 11, 13, 17, 19, 23, P - 1]
OTHER_SCRIPT = [P - 1 - i for i in range(11)]
ROW_ASKED = [5] * 11
NEW_BOX = (0, [0] * 64)
NEW_COUNTER = (0, 0, 0, [0] * 11)


def name(number):
    return [0, number]


def seal(y, secret):
    return [1, y, len(secret)] + secret


def open_box(y):
    return [2, y]


def new(x, script):
    return [3, x, len(script)] + script


def try_one(x):
    return [4, x]


def free(pass_told):
    return [5, pass_told]


def box(mark, sealed):
    return [6, mark, len(sealed)] + sealed


def counter(pass_told, tries, state, row):
    return [7, pass_told, tries, state, len(row)] + row


def look():
    return [8]


def flat(calls):
    return [number for call in calls for number in call]


def split(given):
    """Each answer by itself, of the one list that answers gives back."""
    apart = []
    at = 0
    while at < len(given):
        end = at + 1 + given[at]
        if end > len(given):
            raise AssertionError("an answer is shorter than it is told to be")
        apart.append(given[at + 1:end])
        at = end
    return apart


def line(*calls):
    """The answers to the calls, one behind another, on a new object."""
    return split(answers(flat(calls)))


def told_pad(y):
    return [(y // 256 ** (i % 8) + i) % 256 for i in range(64)]


def told_mark(y):
    return (6_364_136_223_846_793_005 * y + 1_442_695_040_888_963_407) % 2 ** 64


def told_pass(y):
    return (2_862_933_555_777_941_757 * y + 3_037_000_493) % 2 ** 64


def told_row(row, x):
    return sum(number * pow(x, i, P) for i, number in enumerate(row)) % P


def xored(some, others):
    return [one ^ other for one, other in zip(some, others, strict=True)]


def looked(kept_box, kept_counter):
    """What look answers of a box (mark, sealed) and a counter (pass, tries, state, row)."""
    mark, sealed = kept_box
    pass_told, tries, state, row = kept_counter
    return [0, mark] + sealed + [pass_told, tries, state] + row


def sealed_box(y, secret):
    """The box that seal leaves."""
    return (told_mark(y), xored(secret, told_pad(y)))


def begun_counter(x, row, tries=0, state=1):
    """The counter that new leaves, with tries and a state of later."""
    return (told_pass(told_row(row, x)), tries, state, row)
