"""Long lists of calls of all nine kinds, in any order, on one object."""

import random
import unittest

from tentries.counters import answers

import lines
from lines import P, TOP, flat, split, told_mark
from model import Model

KINDS = ["name", "seal", "open_box", "new", "try_one", "free", "box", "counter", "look"]
LONGEST = 16000
MOST_CALLS = 5000
EDGES = [0, 1, 2, 3, 255, 256, 9999, P - 2, P - 1, P, P + 1, 2 ** 63, TOP]


class Chooser:
    """Chooses the calls of a list by a seed, so that each run has the same."""

    def __init__(self, seed, weights):
        self.random = random.Random(seed)
        self.weights = weights
        self.model = Model()
        # Few numbers to choose from, so that a y, a mark or a pass is often met again.
        self.known = [self.random.randrange(P) for i in range(3)]

    def word(self):
        if self.random.randrange(4) == 0:
            return self.random.choice(EDGES)
        return self.random.choice(self.known)

    def row(self):
        return [self.random.choice([0, 1, P - 1, self.random.randrange(P)]) for i in range(11)]

    def row_put_there(self):
        row = self.row()
        if self.random.randrange(6) == 0:
            row[self.random.randrange(11)] = self.random.choice([P, P + 1, TOP])
        return row

    def some_bytes(self):
        return [self.random.randrange(256) for i in range(64)]

    def handed(self, kind):
        if kind == "name":
            return [self.random.choice([0, 1234, 9999, 10000, 2 ** 32 - 1])]
        if kind == "seal":
            return [self.word(), self.some_bytes()]
        if kind == "new":
            x = self.word()
            return [x, self.row() if self.model.asks_for_a_row(x) else []]
        if kind == "free":
            return [self.random.choice([self.model.counter[0], self.word()])]
        if kind == "box":
            return [self.random.choice([told_mark(self.word()), self.word()]), self.some_bytes()]
        if kind == "counter":
            tries = self.random.choice([0, 0, 5, 8, 9, 10, 10, 11, 2 ** 32 - 1])
            state = self.random.choice([0, 1, 1, 1, 2, 2, 2, 3, 2 ** 32 - 1])
            return [self.word(), tries, state, self.row_put_there()]
        if kind == "look":
            return []
        return [self.word()]

    def next_call(self):
        """A call as it lies in the list, and what it has to answer."""
        kind = self.random.choices(KINDS, self.weights)[0]
        handed = self.handed(kind)
        return kind, getattr(lines, kind)(*handed), self.model.answer(kind, *handed)


def chosen(seed, weights):
    """The kinds, the calls and the answers of a list as long as lists may be."""
    chooser = Chooser(seed, weights)
    steps = []
    length = 0
    while len(steps) < MOST_CALLS:
        step = chooser.next_call()
        length += len(step[1])
        if length > LONGEST:
            break
        steps.append(step)
    return steps


class LongListsTest(unittest.TestCase):
    def compared(self, steps):
        calls = flat([call for kind, call, answer in steps])
        before = list(calls)
        given = answers(calls)
        self.assertEqual(calls, before)
        self.assertEqual(answers(calls), given)
        told = split(given)
        self.assertEqual(len(told), len(steps))
        for (kind, call, answer), one in zip(steps, told):
            self.assertEqual(one, answer, call)

    def test_all_kinds_as_often(self):
        met = set()
        for seed in range(20):
            steps = chosen(seed, [1] * 9)
            self.compared(steps)
            met.update((kind, answer[0]) for kind, call, answer in steps)
        # Each refusal, and each answer that is told apart, has to come about.
        for kind, numbers in (
                ("name", [0, -22]), ("seal", [0, -22]), ("open_box", [0, -13, -22]), ("new", [0, -1, -22, -71]),
                ("try_one", list(range(10)) + [-2, -22, -28, -71]), ("free", [0, 1, -2, -28, -71]), ("box", [0]),
                ("counter", [0]), ("look", [0])):
            for number in numbers:
                self.assertIn((kind, number), met)

    def test_no_counter_put_there(self):
        for seed in range(20):
            self.compared(chosen(seed, [1, 1, 1, 6, 6, 3, 1, 0, 2]))

    def test_as_many_calls_as_a_list_may_have(self):
        for seed in range(5):
            steps = chosen(seed, [4, 0, 9, 3, 9, 9, 0, 0, 9])
            self.assertEqual(len(steps), MOST_CALLS)
            self.compared(steps)


if __name__ == "__main__":
    unittest.main()
