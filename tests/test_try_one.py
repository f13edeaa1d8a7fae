"""Point 5: try, which is try_one here."""

import unittest

from tentries.acts import new as do_new
from tentries.acts import try_one as do_try_one
from tentries.asking import Asker
from tentries.kept import Kept

from lines import (OTHER_SCRIPT, P, SCRIPT, SECRET, TOP, line, new, open_box, seal, shown, told_pass, told_row,
                   try_one)


class TryOneTest(unittest.TestCase):
    def test_the_right_x(self):
        self.assertEqual(line(new(2, [1] * 11), try_one(2))[1], [9, 2047, 0])

    def test_another_x(self):
        self.assertEqual(line(new(2, [1] * 11), try_one(3))[1], [9, 88573, 0])

    def test_ten_tries_and_then_none(self):
        told = line(new(3, SCRIPT), *[try_one(i) for i in range(12)])
        for i in range(10):
            self.assertEqual(told[1 + i], [9 - i, told_row(SCRIPT, i), 0])
        self.assertEqual(told[11:], [[-28, 0], [-28, 0]])

    def test_the_eleventh_try_of_the_right_number(self):
        told = line(new(3, SCRIPT), *[try_one(4)] * 10, try_one(3))
        self.assertEqual(told[10][0], 0)
        self.assertEqual(told[11], [-28, 0])

    def test_the_right_number_is_counted_too(self):
        told = line(new(3, SCRIPT), *[try_one(3)] * 11)
        self.assertEqual(told[1:], [[9 - i, told_row(SCRIPT, 3), 0] for i in range(10)] + [[-28, 0]])

    def test_edges_of_x(self):
        for x in (0, 1, 2 ** 60 + 5, P - 2, P - 1):
            for row in (SCRIPT, OTHER_SCRIPT, [P - 1] * 11):
                self.assertEqual(line(new(3, row), try_one(x))[1], [9, told_row(row, x), 0])

    def test_x_from_p_on_is_refused_and_not_counted(self):
        for x in (P, P + 1, 2 ** 61, 2 ** 63, TOP):
            told = line(new(3, SCRIPT), try_one(x), try_one(x), try_one(3))
            self.assertEqual(told[1:], [[-22, 0], [-22, 0], [9, told_row(SCRIPT, 3), 0]])

    def test_a_new_object_has_nobody(self):
        self.assertEqual(line(try_one(0), try_one(3), try_one(P - 1)), [[-2, 0]] * 3)

    def test_a_try_on_nobody_is_not_counted(self):
        told = line(*[try_one(3)] * 11, new(3, SCRIPT), try_one(3))
        self.assertEqual(told[12], [9, told_row(SCRIPT, 3), 0])

    def test_x_is_looked_at_first(self):
        self.assertEqual(line(try_one(P)), [[-22, 0]])
        self.assertEqual(line(new(3, SCRIPT), *[try_one(3)] * 10, try_one(P))[11], [-22, 0])

    def test_nobody_is_told_ahead_of_no_tries(self):
        kept = Kept()
        kept.tries = 10
        self.assertEqual(do_try_one(kept, 3), [-2])

    def test_who_was_let_go_is_tried_on(self):
        kept = Kept()
        do_new(kept, Asker(), 3, SCRIPT)
        kept.state = 2
        kept.tries = 8
        self.assertEqual(do_try_one(kept, 3), [1, told_row(SCRIPT, 3)])
        self.assertEqual(do_try_one(kept, 4), [0, told_row(SCRIPT, 4)])
        self.assertEqual(do_try_one(kept, 3), [-28])
        self.assertEqual(kept.state, 2)

    def test_tries_alone_is_changed(self):
        kept = Kept()
        do_new(kept, Asker(), 3, SCRIPT)
        y = told_row(SCRIPT, 3)
        for tries in range(1, 11):
            do_try_one(kept, 3 + tries)
            self.assertEqual(shown(kept), (0, [0] * 64, told_pass(y), tries, 1, SCRIPT))

    def test_refusals_leave_the_object(self):
        kept = Kept()
        do_new(kept, Asker(), 3, SCRIPT)
        kept.tries = 10
        before = shown(kept)
        self.assertEqual(do_try_one(kept, P), [-22])
        self.assertEqual(do_try_one(kept, 3), [-28])
        self.assertEqual(shown(kept), before)

    def test_tries_and_box_go_apart(self):
        told = line(new(3, SCRIPT), try_one(3), seal(9, SECRET), open_box(9), seal(P, SECRET), try_one(3))
        self.assertEqual(told[5], [8, told_row(SCRIPT, 3), 0])


if __name__ == "__main__":
    unittest.main()
