"""The interface: the form of the calls and of the answers."""

import contextlib
import inspect
import io
import unittest

import tentries.counters
from tentries.counters import UnknownCall, answers

from lines import (NEW_BOX, NEW_COUNTER, OTHER_SCRIPT, P, ROW_ASKED, SCRIPT, SECRET, TOP, begun_counter, box, counter,
                   flat, free, line, look, looked, name, new, open_box, seal, sealed_box, split, told_pass, told_row,
                   try_one)

MANY = [
    name(1234), name(10000), open_box(3), try_one(3), new(P, []), new(3, SCRIPT), new(3, []), seal(9, SECRET),
    seal(TOP, SECRET), try_one(3), try_one(P), try_one(P - 1), open_box(9), open_box(8), open_box(P), free(1),
    free(told_pass(told_row(SCRIPT, 3))), look(), box(TOP, SECRET), counter(6, 9, 1, OTHER_SCRIPT), look(), free(7),
    free(6), counter(6, 11, 3, [TOP] * 11), free(6), look(), seal(9, SECRET), counter(6, 9, 0, SCRIPT), free(6),
]


def refuse_change(self, *more):
    raise AssertionError("a list that was handed in was to be changed")


class Unchanged(list):
    """A list that can be read alone."""

    __setitem__ = __delitem__ = __iadd__ = __imul__ = refuse_change
    append = clear = extend = insert = pop = remove = reverse = sort = refuse_change


class InterfaceTest(unittest.TestCase):
    def test_the_function_as_it_is_named(self):
        self.assertTrue(inspect.isfunction(tentries.counters.answers))
        self.assertEqual(answers.__module__, "tentries.counters")
        self.assertEqual(answers.__name__, "answers")
        self.assertEqual(str(inspect.signature(answers)), "(calls)")
        self.assertEqual(answers(calls=[0, 1]), answers([0, 1]))

    def test_each_answer_has_its_length_before_it(self):
        self.assertEqual(answers([0, 1234]), [5, 0, 1234016047, 1, 1, 1234])
        self.assertEqual(answers([0, 10000]), [2, -22, 0])
        self.assertEqual(answers([1, 9, 64] + SECRET), [6, 0, 2, 2, 9, 3, 9])
        self.assertEqual(answers([2, 9]), [4, -13, 1, 3, 9])
        self.assertEqual(answers([3, 2, 11] + [1] * 11), [16, 0, 2047, 12] + ROW_ASKED + [4, 2047])
        self.assertEqual(answers([3, P, 0]), [2, -22, 0])
        self.assertEqual(answers([4, 9]), [2, -2, 0])

    def test_free_tells_how_many_things_were_asked(self):
        self.assertEqual(answers([5, 0]), [2, -2, 0])
        self.assertEqual(answers([7, 6, 0, 1, 11] + [0] * 11 + [5, 6]), [1, 0, 2, 1, 0])
        self.assertEqual(answers([7, 6, 0, 1, 11] + [0] * 11 + [5, 7]), [1, 0, 2, 0, 0])
        self.assertEqual(answers([7, 6, 10, 1, 11] + [0] * 11 + [5, 7]), [1, 0, 2, -28, 0])
        self.assertEqual(answers([7, 6, 11, 1, 11] + [0] * 11 + [5, 7]), [1, 0, 2, -71, 0])

    def test_box_counter_and_look_tell_nothing_of_what_was_asked(self):
        self.assertEqual(answers([6, 5, 64] + SECRET), [1, 0])
        self.assertEqual(answers([7, 6, 0, 1, 11] + [0] * 11), [1, 0])
        self.assertEqual(answers([8]), [80] + [0] * 80)
        self.assertEqual(
            answers([6, 5, 64] + SECRET + [7, 1, 2, 3, 11] + SCRIPT + [8]),
            [1, 0, 1, 0, 80, 0, 5] + SECRET + [1, 2, 3] + SCRIPT)

    def test_the_answers_lie_one_behind_another(self):
        self.assertEqual(
            answers([3, 2, 11] + [1] * 11 + [4, 2, 4, P, 0, 0, 3, 2, 0]),
            [16, 0, 2047, 12] + ROW_ASKED + [4, 2047] + [3, 9, 2047, 0] + [2, -22, 0] + [5, 0, 12345, 1, 1, 0]
            + [2, -1, 0])
        self.assertEqual(
            answers([1, 1, 64] + SECRET + [2, 1]),
            [6, 0, 2, 2, 1, 3, 1] + [73, 0, 2862933558814942250] + SECRET + [3, 3, 1, 2, 1, 4, 1])

    def test_an_answer_for_each_call_in_order(self):
        self.assertEqual(
            line(*MANY),
            [[0, 1234016047, 1, 1, 1234], [-22, 0], [-13, 1, 3, 3], [-2, 0], [-22, 0],
             [0, told_row(SCRIPT, 3), 12] + ROW_ASKED + [4, told_row(SCRIPT, 3)], [-1, 0], [0, 2, 2, 9, 3, 9],
             [-22, 0], [9, told_row(SCRIPT, 3), 0], [-22, 0], [8, told_row(SCRIPT, P - 1), 0],
             [0, told_pass(9)] + SECRET + [3, 3, 9, 2, 9, 4, 9], [-13, 1, 3, 8], [-22, 0], [0, 0], [1, 0],
             looked(sealed_box(9, SECRET), begun_counter(3, SCRIPT, 3, 2)), [0], [0],
             looked((TOP, SECRET), (6, 9, 1, OTHER_SCRIPT)), [0, 0], [-28, 0], [0], [-71, 0],
             looked((TOP, SECRET), (6, 11, 3, [TOP] * 11)), [0, 2, 2, 9, 3, 9], [0], [-2, 0]])

    def test_whole_numbers_in_a_plain_list(self):
        given = answers(flat(MANY))
        self.assertIs(type(given), list)
        for number in given:
            self.assertIs(type(number), int)

    def test_what_is_handed_in_stays(self):
        calls = flat(MANY)
        before = list(calls)
        given = answers(calls)
        self.assertEqual(calls, before)
        self.assertEqual(answers(Unchanged(calls)), given)
        given.clear()
        self.assertEqual(calls, before)

    def test_the_same_list_is_answered_the_same(self):
        calls = flat(MANY)
        first = answers(calls)
        second = answers(calls)
        self.assertEqual(first, second)
        self.assertIsNot(first, second)
        first[0] = 77
        self.assertEqual(answers(calls), second)

    def test_nothing_is_kept_for_the_next_list(self):
        line(new(3, SCRIPT), seal(9, SECRET), try_one(3))
        self.assertEqual(
            line(try_one(3), open_box(9), free(told_pass(told_row(SCRIPT, 3))), look()),
            [[-2, 0], [-13, 1, 3, 9], [-2, 0], looked(NEW_BOX, NEW_COUNTER)])
        line(box(7, SECRET), counter(TOP, 11, 3, [TOP] * 11))
        self.assertEqual(line(look()), [looked(NEW_BOX, NEW_COUNTER)])
        self.assertEqual(line(new(3, OTHER_SCRIPT), try_one(3))[1], [9, told_row(OTHER_SCRIPT, 3), 0])

    def test_five_thousand_calls(self):
        told = line(new(3, SCRIPT), *[try_one(4)] * 4999)
        self.assertEqual(len(told), 5000)
        self.assertEqual(told[10], [0, told_row(SCRIPT, 4), 0])
        self.assertEqual(told[11:], [[-28, 0]] * 4989)

    def test_five_thousand_looks(self):
        there = (TOP, 11, 3, [TOP] * 11)
        told = line(counter(*there), *[look()] * 4999)
        self.assertEqual(told[1:], [looked(NEW_BOX, there)] * 4999)

    def test_what_was_handed_in_is_not_what_is_kept(self):
        calls = Unchanged(box(7, SECRET) + counter(6, 8, 1, SCRIPT) + flat([
            seal(9, [1] * 64), try_one(3), free(5), counter(6, 0, 2, OTHER_SCRIPT), new(4, SCRIPT), look()]))
        before = list(calls)
        self.assertEqual(split(answers(calls))[7], looked(sealed_box(9, [1] * 64), begun_counter(4, SCRIPT)))
        self.assertEqual(list(calls), before)

    def test_the_longest_list_of_seals(self):
        told = line(*[seal(y, SECRET) for y in range(238)], open_box(237))
        self.assertEqual(told[:238], [[0, 2, 2, y, 3, y] for y in range(238)])
        self.assertEqual(told[238][2:66], SECRET)

    def test_it_prints_nothing(self):
        printed = io.StringIO()
        with contextlib.redirect_stdout(printed), contextlib.redirect_stderr(printed):
            answers(flat(MANY))
        self.assertEqual(printed.getvalue(), "")

    def test_a_call_of_no_known_number_fails(self):
        for calls in ([9], [-1, 3], [0, 5, 99, 3], [8, 9]):
            with self.assertRaises(UnknownCall):
                answers(calls)

    def test_answers_are_taken_apart_rightly(self):
        self.assertEqual(split([1, 5, 2, 6, 7]), [[5], [6, 7]])
        with self.assertRaises(AssertionError):
            split([3, 5])


if __name__ == "__main__":
    unittest.main()
