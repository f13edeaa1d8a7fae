"""Point 4: new."""

import unittest

from lines import (NEW_BOX, NEW_COUNTER, OTHER_SCRIPT, P, ROW_ASKED, SCRIPT, SECRET, TOP, begun_counter, counter, free,
                   line, look, looked, new, open_box, seal, sealed_box, told_pass, told_row, try_one)


def begun(y):
    return [0, y, 12] + ROW_ASKED + [4, y]


class NewTest(unittest.TestCase):
    def test_small_rows(self):
        ones = [1] * 11
        self.assertEqual(line(new(2, ones)), [begun(2047)])
        self.assertEqual(line(new(0, [7] + [0] * 10)), [begun(7)])
        self.assertEqual(line(new(10, list(range(11)))), [begun(109876543210)])

    def test_a0_stands_first(self):
        self.assertEqual(line(new(0, SCRIPT)), [begun(SCRIPT[0])])

    def test_each_of_the_eleven_numbers_counts(self):
        for i in range(11):
            row = [0] * 11
            row[i] = 3
            self.assertEqual(line(new(2, row)), [begun(3 * 2 ** i)])

    def test_sums_above_64_bits(self):
        for x in (1, 2, 12345, 2 ** 60 + 5, P - 2, P - 1):
            for row in (SCRIPT, OTHER_SCRIPT, [P - 1] * 11):
                self.assertEqual(line(new(x, row)), [begun(told_row(row, x))])
        self.assertEqual(line(new(P - 1, [P - 1] * 11)), [begun(P - 1)])
        self.assertEqual(line(new(1, [P - 1] * 11)), [begun(P - 11)])

    def test_a_row_that_comes_to_nought(self):
        self.assertEqual(line(new(1, [P - 1, 1] + [0] * 9)), [begun(0)])

    def test_x_from_p_on_is_refused_and_nothing_is_asked(self):
        for x in (P, P + 1, 2 ** 61, 2 ** 63, TOP):
            self.assertEqual(
                line(new(x, []), look(), try_one(1)), [[-22, 0], looked(NEW_BOX, NEW_COUNTER), [-2, 0]])

    def test_somebody_there_is_refused_and_nothing_is_asked(self):
        self.assertEqual(line(new(3, SCRIPT), new(3, []), new(4, []))[1:], [[-1, 0], [-1, 0]])

    def test_x_is_looked_at_ahead_of_somebody(self):
        self.assertEqual(line(new(3, SCRIPT), new(P, []))[1], [-22, 0])

    def test_a_refusal_leaves_row_and_tries(self):
        told = line(new(3, SCRIPT), try_one(3), new(5, []), look(), new(P, []), look(), try_one(3))
        after = looked(NEW_BOX, begun_counter(3, SCRIPT, 1))
        self.assertEqual(told[2:], [[-1, 0], after, [-22, 0], after, [8, told_row(SCRIPT, 3), 0]])

    def test_no_new_row_once_the_tries_are_gone(self):
        self.assertEqual(line(new(3, SCRIPT), *[try_one(4)] * 10, new(3, []))[11], [-1, 0])

    def test_what_the_counter_has(self):
        for x in (0, 3, P - 1):
            for row in (SCRIPT, OTHER_SCRIPT, [0] * 11):
                told = line(new(x, row), look())
                self.assertEqual(told, [begun(told_row(row, x)), looked(NEW_BOX, begun_counter(x, row))])

    def test_who_was_let_go_makes_room(self):
        after = looked(NEW_BOX, begun_counter(8, OTHER_SCRIPT))
        for tries in (0, 3, 9):
            pass_told = told_pass(told_row(SCRIPT, 3))
            told = line(
                new(3, SCRIPT), *[try_one(5)] * tries, free(pass_told), new(8, OTHER_SCRIPT), look(), new(8, []))
            self.assertEqual(told[tries + 1:], [[1, 0], begun(told_row(OTHER_SCRIPT, 8)), after, [-1, 0]])

    def test_all_states_but_1_make_room_whatever_the_tries(self):
        after = looked(NEW_BOX, begun_counter(8, OTHER_SCRIPT))
        for state in (0, 2):
            for tries in (0, 1, 9, 10):
                told = line(counter(77, tries, state, SCRIPT), new(8, OTHER_SCRIPT), look())
                self.assertEqual(told[1:], [begun(told_row(OTHER_SCRIPT, 8)), after])

    def test_state_1_makes_no_room_whatever_the_tries(self):
        for tries in (0, 1, 9, 10):
            there = (77, tries, 1, SCRIPT)
            told = line(counter(*there), new(8, []), look(), new(P, []), look())
            self.assertEqual(told[1:], [[-1, 0], looked(NEW_BOX, there), [-22, 0], looked(NEW_BOX, there)])

    def test_x_is_looked_at_where_somebody_was_let_go(self):
        self.assertEqual(line(counter(77, 10, 2, SCRIPT), new(P, []))[1], [-22, 0])

    def test_the_box_stays(self):
        told = line(seal(9, SECRET), new(3, SCRIPT), look(), open_box(9))
        self.assertEqual(told[2], looked(sealed_box(9, SECRET), begun_counter(3, SCRIPT)))
        self.assertEqual(told[3], [0, told_pass(9)] + SECRET + [3, 3, 9, 2, 9, 4, 9])

    def test_each_new_row_stands_for_itself(self):
        told = line(
            new(3, SCRIPT), free(told_pass(told_row(SCRIPT, 3))), new(4, OTHER_SCRIPT),
            free(told_pass(told_row(OTHER_SCRIPT, 4))), new(3, SCRIPT), look())
        self.assertEqual(told[5], looked(NEW_BOX, begun_counter(3, SCRIPT)))


if __name__ == "__main__":
    unittest.main()
