"""Point 5: try, which is try_one here."""

import unittest

from lines import (NEW_BOX, NEW_COUNTER, OTHER_SCRIPT, P, SCRIPT, SECRET, TOP, begun_counter, counter, free, line, look,
                   looked, new, open_box, seal, sealed_box, told_pass, told_row, try_one)


class TryOneTest(unittest.TestCase):
    def test_the_right_x(self):
        self.assertEqual(line(new(2, [1] * 11), try_one(2))[1], [9, 2047, 0])

    def test_another_x(self):
        self.assertEqual(line(new(2, [1] * 11), try_one(3))[1], [9, 88573, 0])

    def test_ten_tries_and_then_none(self):
        told = line(new(3, SCRIPT), *[try_one(i) for i in range(12)])
        for i in range(10):
            self.assertEqual(told[1 + i], [9 - i, told_row(SCRIPT, i), 0])
        self.assertEqual(told[11:], [[-28, 0], [-28, 0]])

    def test_the_eleventh_try_of_the_right_number(self):
        told = line(new(3, SCRIPT), *[try_one(4)] * 10, try_one(3))
        self.assertEqual(told[10][0], 0)
        self.assertEqual(told[11], [-28, 0])

    def test_the_right_number_is_counted_too(self):
        told = line(new(3, SCRIPT), *[try_one(3)] * 11)
        self.assertEqual(told[1:], [[9 - i, told_row(SCRIPT, 3), 0] for i in range(10)] + [[-28, 0]])

    def test_edges_of_x(self):
        for x in (0, 1, 2 ** 60 + 5, P - 2, P - 1):
            for row in (SCRIPT, OTHER_SCRIPT, [P - 1] * 11):
                self.assertEqual(line(new(3, row), try_one(x))[1], [9, told_row(row, x), 0])

    def test_x_from_p_on_is_refused_and_not_counted(self):
        for x in (P, P + 1, 2 ** 61, 2 ** 63, TOP):
            told = line(new(3, SCRIPT), try_one(x), try_one(x), try_one(3))
            self.assertEqual(told[1:], [[-22, 0], [-22, 0], [9, told_row(SCRIPT, 3), 0]])

    def test_a_new_object_has_nobody(self):
        self.assertEqual(
            line(try_one(0), try_one(3), try_one(P - 1), look()), [[-2, 0]] * 3 + [looked(NEW_BOX, NEW_COUNTER)])

    def test_a_try_on_nobody_is_not_counted(self):
        told = line(*[try_one(3)] * 11, new(3, SCRIPT), try_one(3))
        self.assertEqual(told[12], [9, told_row(SCRIPT, 3), 0])

    def test_x_is_looked_at_first(self):
        self.assertEqual(line(try_one(P)), [[-22, 0]])
        self.assertEqual(line(new(3, SCRIPT), *[try_one(3)] * 10, try_one(P))[11], [-22, 0])

    def test_nobody_is_told_ahead_of_no_tries(self):
        for tries in (0, 9, 10):
            there = (77, tries, 0, SCRIPT)
            self.assertEqual(line(counter(*there), try_one(3), look())[1:], [[-2, 0], looked(NEW_BOX, there)])

    def test_x_is_looked_at_ahead_of_nobody_and_no_tries(self):
        for state in (0, 1, 2):
            there = (77, 10, state, SCRIPT)
            self.assertEqual(line(counter(*there), try_one(P), look())[1:], [[-22, 0], looked(NEW_BOX, there)])

    def test_who_was_let_go_is_tried_on(self):
        there = begun_counter(3, SCRIPT, 8, 2)
        told = line(
            new(3, SCRIPT), *[try_one(5)] * 8, free(there[0]), look(), try_one(3), try_one(4), try_one(3), look())
        self.assertEqual(told[9:], [
            [1, 0], looked(NEW_BOX, there), [1, told_row(SCRIPT, 3), 0], [0, told_row(SCRIPT, 4), 0], [-28, 0],
            looked(NEW_BOX, begun_counter(3, SCRIPT, 10, 2))])

    def test_a_counter_put_there_is_tried(self):
        for state in (1, 2):
            for tries in range(10):
                told = line(counter(77, tries, state, OTHER_SCRIPT), try_one(5), look())
                self.assertEqual(told[1:], [
                    [9 - tries, told_row(OTHER_SCRIPT, 5), 0], looked(NEW_BOX, (77, tries + 1, state, OTHER_SCRIPT))])

    def test_tries_alone_is_changed(self):
        told = line(seal(9, SECRET), new(3, SCRIPT), *[call for x in range(10) for call in (try_one(x), look())])
        for x in range(10):
            after = looked(sealed_box(9, SECRET), begun_counter(3, SCRIPT, x + 1))
            self.assertEqual(told[2 + 2 * x:4 + 2 * x], [[9 - x, told_row(SCRIPT, x), 0], after])

    def test_refusals_leave_the_object(self):
        told = line(seal(9, SECRET), new(3, SCRIPT), *[try_one(3)] * 10, try_one(P), look(), try_one(3), look())
        after = looked(sealed_box(9, SECRET), begun_counter(3, SCRIPT, 10))
        self.assertEqual(told[12:], [[-22, 0], after, [-28, 0], after])

    def test_tries_and_box_go_apart(self):
        told = line(new(3, SCRIPT), try_one(3), seal(9, SECRET), open_box(9), seal(P, SECRET), try_one(3))
        self.assertEqual(told[5], [8, told_row(SCRIPT, 3), 0])


if __name__ == "__main__":
    unittest.main()
