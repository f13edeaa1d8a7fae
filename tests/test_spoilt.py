"""The row ahead of point 4: new, try and free answer -71 if the counter is spoilt."""

import unittest

from lines import (P, ROW_ASKED, SCRIPT, SECRET, TOP, counter, free, line, look, looked, name, new, open_box, seal,
                   sealed_box, told_pass, try_one)

BOX = sealed_box(9, SECRET)
HIGHEST_ROW = [P - 1] * 11


def row_with(i, number):
    row = list(SCRIPT)
    row[i] = number
    return row


class SpoiltTest(unittest.TestCase):
    def refused(self, there):
        """Each of the three is refused whatever it is handed, and all stays."""
        calls = [new(3, []), new(P, []), new(TOP, []), try_one(3), try_one(P), try_one(TOP), free(there[0]), free(0),
                 free(TOP)]
        told = line(seal(9, SECRET), counter(*there), *[one for call in calls for one in (call, look())])
        self.assertEqual(told[1], [0])
        self.assertEqual(told[2::2], [[-71, 0]] * 9)
        self.assertEqual(told[3::2], [looked(BOX, there)] * 9)

    def test_a_state_above_2(self):
        for state in (3, 4, 2 ** 32 - 1):
            for tries in (0, 1, 10):
                self.refused((77, tries, state, SCRIPT))

    def test_tries_above_10(self):
        for state in (0, 1, 2):
            for tries in (11, 12, 2 ** 32 - 1):
                self.refused((77, tries, state, SCRIPT))

    def test_a_number_of_the_row_not_below_p(self):
        for state in (0, 1, 2):
            for i in range(11):
                for number in (P, P + 1, 2 ** 63, TOP):
                    self.refused((77, 0, state, row_with(i, number)))

    def test_the_row_where_nobody_is_there_or_no_tries_are_left(self):
        for state in (0, 1, 2):
            self.refused((77, 10, state, row_with(10, P)))

    def test_several_together(self):
        self.refused((77, 11, 3, SCRIPT))
        self.refused((77, 0, 3, row_with(0, P)))
        self.refused((77, 11, 1, row_with(10, P)))
        self.refused((77, 11, 3, row_with(5, P)))
        self.refused((TOP, 2 ** 32 - 1, 2 ** 32 - 1, [TOP] * 11))

    def test_a_pass_of_any_size_spoils_nothing(self):
        told = line(counter(TOP, 0, 1, SCRIPT), new(3, []), try_one(0), free(TOP))
        self.assertEqual(told[1:], [[-1, 0], [9, SCRIPT[0], 0], [1, 0]])

    def test_a_counter_that_is_just_not_spoilt(self):
        there = counter(TOP, 10, 2, HIGHEST_ROW)
        self.assertEqual(line(there, new(2, [1] * 11))[1], [0, 2047, 12] + ROW_ASKED + [4, 2047])
        self.assertEqual(
            line(there, new(P, []), try_one(P), try_one(1), free(TOP), look())[1:],
            [[-22, 0], [-22, 0], [-28, 0], [-28, 0], looked((0, [0] * 64), (TOP, 10, 2, HIGHEST_ROW))])
        self.assertEqual(line(counter(TOP, 9, 2, HIGHEST_ROW), try_one(1))[1], [0, P - 11, 0])
        self.assertEqual(line(counter(TOP, 9, 2, HIGHEST_ROW), free(TOP))[1], [1, 0])

    def test_tries_never_spoil_it_by_themselves(self):
        told = line(new(3, SCRIPT), *[try_one(3)] * 20, *[free(0)] * 20, new(3, []))
        self.assertEqual(told[11:], [[-28, 0]] * 30 + [[-1, 0]])

    def test_the_other_calls_go_on(self):
        there = (77, 11, 3, [TOP] * 11)
        self.assertEqual(
            line(counter(*there), name(0), seal(9, SECRET), open_box(9), open_box(8), look()),
            [[0], [0, 12345, 1, 1, 0], [0, 2, 2, 9, 3, 9], [0, told_pass(9)] + SECRET + [3, 3, 9, 2, 9, 4, 9],
             [-13, 1, 3, 8], looked(BOX, there)])

    def test_another_counter_mends_it(self):
        told = line(counter(77, 11, 3, [TOP] * 11), try_one(3), counter(5, 3, 1, [7] + [0] * 10), try_one(3), free(5))
        self.assertEqual(told, [[0], [-71, 0], [0], [6, 7, 0], [1, 0]])


if __name__ == "__main__":
    unittest.main()
