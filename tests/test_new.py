"""Point 4: new."""

import unittest

from tentries.acts import new as do_new
from tentries.asking import Asker
from tentries.kept import Kept

from lines import (OTHER_SCRIPT, P, ROW_ASKED, SCRIPT, SECRET, TOP, line, new, open_box, seal, shown, told_pass,
                   told_row, try_one)


def begun(y):
    return [0, y, 12] + ROW_ASKED + [4, y]


class NewTest(unittest.TestCase):
    def test_small_rows(self):
        ones = [1] * 11
        self.assertEqual(line(new(2, ones)), [begun(2047)])
        self.assertEqual(line(new(0, [7] + [0] * 10)), [begun(7)])
        self.assertEqual(line(new(10, list(range(11)))), [begun(109876543210)])

    def test_a0_stands_first(self):
        self.assertEqual(line(new(0, SCRIPT)), [begun(SCRIPT[0])])

    def test_each_of_the_eleven_numbers_counts(self):
        for i in range(11):
            row = [0] * 11
            row[i] = 3
            self.assertEqual(line(new(2, row)), [begun(3 * 2 ** i)])

    def test_sums_above_64_bits(self):
        for x in (1, 2, 12345, 2 ** 60 + 5, P - 2, P - 1):
            for row in (SCRIPT, OTHER_SCRIPT, [P - 1] * 11):
                self.assertEqual(line(new(x, row)), [begun(told_row(row, x))])
        self.assertEqual(line(new(P - 1, [P - 1] * 11)), [begun(P - 1)])
        self.assertEqual(line(new(1, [P - 1] * 11)), [begun(P - 11)])

    def test_a_row_that_comes_to_nought(self):
        self.assertEqual(line(new(1, [P - 1, 1] + [0] * 9)), [begun(0)])

    def test_x_from_p_on_is_refused_and_nothing_is_asked(self):
        for x in (P, P + 1, 2 ** 61, 2 ** 63, TOP):
            self.assertEqual(line(new(x, []), try_one(1)), [[-22, 0], [-2, 0]])

    def test_somebody_there_is_refused_and_nothing_is_asked(self):
        self.assertEqual(line(new(3, SCRIPT), new(3, []), new(4, []))[1:], [[-1, 0], [-1, 0]])

    def test_x_is_looked_at_ahead_of_somebody(self):
        self.assertEqual(line(new(3, SCRIPT), new(P, []))[1], [-22, 0])

    def test_a_refusal_leaves_row_and_tries(self):
        told = line(new(3, SCRIPT), try_one(3), new(5, []), new(P, []), try_one(3))
        self.assertEqual(told[4], [8, told_row(SCRIPT, 3), 0])

    def test_no_new_row_once_the_tries_are_gone(self):
        self.assertEqual(line(new(3, SCRIPT), *[try_one(4)] * 10, new(3, []))[11], [-1, 0])

    def test_what_the_counter_has(self):
        kept = Kept()
        asker = Asker()
        y = told_row(SCRIPT, 3)
        self.assertEqual(do_new(kept, asker, 3, SCRIPT), [0, y])
        self.assertEqual((asker.how_many, asker.asked), (12, ROW_ASKED + [4, y]))
        self.assertEqual(shown(kept), (0, [0] * 64, told_pass(y), 0, 1, SCRIPT))

    def test_who_was_let_go_makes_room(self):
        for tries in (0, 3, 10):
            kept = Kept()
            do_new(kept, Asker(), 3, SCRIPT)
            kept.tries = tries
            kept.state = 2
            y = told_row(OTHER_SCRIPT, 8)
            self.assertEqual(do_new(kept, Asker(), 8, OTHER_SCRIPT), [0, y])
            self.assertEqual(shown(kept), (0, [0] * 64, told_pass(y), 0, 1, OTHER_SCRIPT))

    def test_the_box_stays(self):
        told = line(seal(9, SECRET), new(3, SCRIPT), open_box(9))
        self.assertEqual(told[2], [0, told_pass(9)] + SECRET + [3, 3, 9, 2, 9, 4, 9])

    def test_the_script_handed_in_stays(self):
        kept = Kept()
        script = list(SCRIPT)
        do_new(kept, Asker(), 3, script)
        self.assertEqual(script, SCRIPT)
        script[0] = 0
        self.assertEqual(kept.row, SCRIPT)


if __name__ == "__main__":
    unittest.main()
