"""Point 6: free."""

import unittest

from lines import (NEW_BOX, NEW_COUNTER, OTHER_SCRIPT, P, SCRIPT, SECRET, TOP, begun_counter, counter, free, line, look,
                   looked, new, open_box, seal, sealed_box, told_pass, told_row, try_one)

PASS = told_pass(told_row(SCRIPT, 3))
WRONG = PASS ^ 1


class FreeTest(unittest.TestCase):
    def test_the_right_pass(self):
        self.assertEqual(line(new(3, SCRIPT), free(PASS))[1], [1, 0])

    def test_a_pass_told_in_numbers(self):
        ones = [1] + [0] * 10
        self.assertEqual(line(new(5, ones), free(2862933558814942250))[1], [1, 0])
        self.assertEqual(line(new(5, ones), free(2862933558814942251))[1], [0, 0])

    def test_the_right_pass_changes_the_state_alone(self):
        told = line(seal(9, SECRET), new(3, SCRIPT), free(PASS), look())
        self.assertEqual(told[3], looked(sealed_box(9, SECRET), begun_counter(3, SCRIPT, 0, 2)))

    def test_the_right_pass_counts_no_try(self):
        for tries in range(10):
            told = line(new(3, SCRIPT), *[try_one(4)] * tries, free(PASS), look())
            self.assertEqual(told[tries + 1:], [[1, 0], looked(NEW_BOX, begun_counter(3, SCRIPT, tries, 2))])

    def test_a_wrong_pass_is_counted_and_changes_nothing_else(self):
        for wrong in (0, WRONG, PASS - 1, PASS + 1, PASS ^ 2 ** 63, TOP):
            told = line(seal(9, SECRET), new(3, SCRIPT), free(wrong), look())
            self.assertEqual(told[2:], [[0, 0], looked(sealed_box(9, SECRET), begun_counter(3, SCRIPT, 1))])

    def test_the_pass_of_a_wrong_number_is_wrong(self):
        self.assertEqual(line(new(3, SCRIPT), free(told_pass(told_row(SCRIPT, 4))))[1], [0, 0])

    def test_ten_wrong_passes_and_then_the_right_one(self):
        told = line(new(3, SCRIPT), *[free(WRONG), look()] * 10, free(PASS), look(), free(WRONG), look())
        for tries in range(1, 11):
            after = looked(NEW_BOX, begun_counter(3, SCRIPT, tries))
            self.assertEqual(told[2 * tries - 1:2 * tries + 1], [[0, 0], after])
        self.assertEqual(told[21:], [[-28, 0], after] * 2)

    def test_nine_wrong_passes_and_then_the_right_one(self):
        told = line(new(3, SCRIPT), *[free(WRONG)] * 9, free(PASS), look())
        self.assertEqual(told[1:], [[0, 0]] * 9 + [[1, 0], looked(NEW_BOX, begun_counter(3, SCRIPT, 9, 2))])

    def test_tries_and_wrong_passes_are_counted_together(self):
        told = line(new(3, SCRIPT), *[try_one(3), free(WRONG)] * 5, try_one(3), free(PASS))
        for i in range(5):
            self.assertEqual(told[1 + 2 * i:3 + 2 * i], [[9 - 2 * i, told_row(SCRIPT, 3), 0], [0, 0]])
        self.assertEqual(told[11:], [[-28, 0], [-28, 0]])

    def test_ten_tries_and_then_the_right_pass(self):
        told = line(new(3, SCRIPT), *[try_one(3)] * 10, free(PASS), look())
        self.assertEqual(told[11:], [[-28, 0], looked(NEW_BOX, begun_counter(3, SCRIPT, 10))])

    def test_a_new_object_has_nobody(self):
        for pass_told in (0, 1, TOP):
            self.assertEqual(line(free(pass_told), look()), [[-2, 0], looked(NEW_BOX, NEW_COUNTER)])

    def test_nobody_is_told_ahead_of_no_tries_and_of_the_pass(self):
        for tries in (0, 9, 10):
            there = (77, tries, 0, SCRIPT)
            told = line(counter(*there), free(77), look(), free(78), look())
            self.assertEqual(told[1:], [[-2, 0], looked(NEW_BOX, there)] * 2)

    def test_no_tries_is_told_ahead_of_the_pass(self):
        for state in (1, 2):
            there = (77, 10, state, SCRIPT)
            told = line(counter(*there), free(77), look(), free(78), look())
            self.assertEqual(told[1:], [[-28, 0], looked(NEW_BOX, there)] * 2)

    def test_spoilt_is_told_ahead_of_nobody_and_no_tries(self):
        for there in ((77, 11, 0, SCRIPT), (77, 10, 3, SCRIPT), (77, 10, 0, [0] * 10 + [P])):
            told = line(counter(*there), free(77), look(), free(78), look())
            self.assertEqual(told[1:], [[-71, 0], looked(NEW_BOX, there)] * 2)

    def test_a_pass_of_any_size_is_taken(self):
        for pass_told in (0, 1, 12345, P - 1, P, 2 ** 63, TOP):
            told = line(counter(pass_told, 4, 1, SCRIPT), free(pass_told ^ 1), free(pass_told), look())
            self.assertEqual(told[1:], [[0, 0], [1, 0], looked(NEW_BOX, (pass_told, 5, 2, SCRIPT))])

    def test_a_pass_put_there_needs_not_be_the_row_s(self):
        self.assertEqual(line(new(3, SCRIPT), counter(77, 0, 1, SCRIPT), free(PASS), free(77))[2:], [[0, 0], [1, 0]])

    def test_free_once_more_where_who_was_there_was_let_go(self):
        told = line(new(3, SCRIPT), free(PASS), free(PASS), look(), free(WRONG), look(), free(PASS), look())
        self.assertEqual(told[1:], [
            [1, 0], [1, 0], looked(NEW_BOX, begun_counter(3, SCRIPT, 0, 2)), [0, 0],
            looked(NEW_BOX, begun_counter(3, SCRIPT, 1, 2)), [1, 0],
            looked(NEW_BOX, begun_counter(3, SCRIPT, 1, 2))])

    def test_ten_wrong_passes_where_who_was_there_was_let_go(self):
        told = line(new(3, SCRIPT), free(PASS), *[free(WRONG)] * 10, free(PASS), try_one(3), look())
        self.assertEqual(
            told[2:],
            [[0, 0]] * 10 + [[-28, 0], [-28, 0], looked(NEW_BOX, begun_counter(3, SCRIPT, 10, 2))])

    def test_try_and_new_where_who_was_there_was_let_go(self):
        told = line(
            new(3, SCRIPT), free(PASS), try_one(3), new(4, OTHER_SCRIPT), free(PASS),
            free(told_pass(told_row(OTHER_SCRIPT, 4))), look())
        self.assertEqual(told[2], [9, told_row(SCRIPT, 3), 0])
        self.assertEqual(told[3][:2], [0, told_row(OTHER_SCRIPT, 4)])
        self.assertEqual(told[4:], [[0, 0], [1, 0], looked(NEW_BOX, begun_counter(4, OTHER_SCRIPT, 1, 2))])

    def test_the_pass_that_open_tells_lets_go(self):
        y = told_row(SCRIPT, 3)
        told = line(new(3, SCRIPT), seal(y, SECRET), open_box(y))
        self.assertEqual(line(new(3, SCRIPT), free(told[2][1]))[1], [1, 0])


if __name__ == "__main__":
    unittest.main()
