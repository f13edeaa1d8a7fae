"""Point 7: box, counter and look."""

import unittest

from lines import (NEW_BOX, NEW_COUNTER, OTHER_SCRIPT, P, SCRIPT, SECRET, TOP, begun_counter, box, counter, free, line,
                   look, looked, name, new, open_box, seal, sealed_box, told_mark, told_pad, told_pass, told_row,
                   try_one, xored)

BYTES = [(31 * i + 200) % 256 for i in range(64)]


class BoxTest(unittest.TestCase):
    def test_what_is_handed_in_is_there(self):
        for mark in (0, 1, 255, P - 1, P, 2 ** 63, TOP):
            for sealed in (BYTES, [0] * 64, [255] * 64):
                self.assertEqual(line(box(mark, sealed), look()), [[0], looked((mark, sealed), NEW_COUNTER)])

    def test_the_counter_stays(self):
        for there in (begun_counter(3, SCRIPT), (TOP, 11, 3, [TOP] * 11)):
            self.assertEqual(line(counter(*there), box(5, BYTES), look())[1:], [[0], looked((5, BYTES), there)])

    def test_the_last_box_holds(self):
        told = line(seal(9, SECRET), box(5, BYTES), look(), box(6, SECRET), look(), seal(9, BYTES), look())
        self.assertEqual(told[2], looked((5, BYTES), NEW_COUNTER))
        self.assertEqual(told[4], looked((6, SECRET), NEW_COUNTER))
        self.assertEqual(told[6], looked(sealed_box(9, BYTES), NEW_COUNTER))

    def test_open_opens_it_by_the_y_of_its_mark_alone(self):
        for y in (0, 1, 12345, P - 1):
            opened = [0, told_pass(y)] + xored(BYTES, told_pad(y)) + [3, 3, y, 2, y, 4, y]
            told = line(
                box(told_mark(y), BYTES), open_box(y), open_box(y ^ 1), open_box(y ^ 2 ** 40), open_box(P), open_box(y))
            self.assertEqual(told, [
                [0], opened, [-13, 1, 3, y ^ 1] if y ^ 1 < P else [-22, 0], [-13, 1, 3, y ^ 2 ** 40], [-22, 0], opened])

    def test_a_box_that_was_sealed_elsewhere(self):
        mark, sealed = sealed_box(9, SECRET)
        self.assertEqual(
            line(box(mark, sealed), open_box(9))[1], [0, told_pass(9)] + SECRET + [3, 3, 9, 2, 9, 4, 9])

    def test_a_mark_of_a_y_from_p_on_is_opened_by_none(self):
        for y in (P, P + 1, TOP):
            told = line(box(told_mark(y), BYTES), open_box(y), open_box(y % P), open_box(y % 2 ** 60))
            self.assertEqual(told[1:], [[-22, 0], [-13, 1, 3, y % P], [-13, 1, 3, y % 2 ** 60]])

    def test_a_box_that_was_put_there_no_longer_opens_by_the_old_y(self):
        self.assertEqual(line(seal(9, SECRET), box(told_mark(8), BYTES), open_box(9))[2], [-13, 1, 3, 9])


class CounterTest(unittest.TestCase):
    def test_what_is_handed_in_is_there(self):
        for there in (
                (77, 3, 1, SCRIPT), (0, 0, 0, [0] * 11), (TOP, 10, 2, [P - 1] * 11), (5, 9, 0, OTHER_SCRIPT),
                (1, 2, 2, list(range(11)))):
            self.assertEqual(line(counter(*there), look()), [[0], looked(NEW_BOX, there)])

    def test_a_spoilt_one_is_there_too(self):
        largest = 2 ** 32 - 1
        for there in (
                (77, 3, 3, SCRIPT), (77, 11, 1, SCRIPT), (77, 3, 1, SCRIPT[:10] + [P]), (77, 3, 1, [P] + SCRIPT[1:]),
                (77, 11, 3, [P] * 11), (TOP, largest, largest, [TOP] * 11), (0, largest, 0, SCRIPT),
                (0, 0, largest, SCRIPT), (0, 0, 0, [TOP] * 11)):
            self.assertEqual(line(counter(*there), look()), [[0], looked(NEW_BOX, there)])

    def test_each_of_its_numbers_stands_for_itself(self):
        there = (101, 102, 103, list(range(104, 115)))
        self.assertEqual(line(counter(*there), look())[1], [0] + [0] * 65 + list(range(101, 115)))

    def test_the_box_stays(self):
        told = line(seal(9, SECRET), counter(77, 3, 1, SCRIPT), look(), open_box(9))
        self.assertEqual(told[1:3], [[0], looked(sealed_box(9, SECRET), (77, 3, 1, SCRIPT))])
        self.assertEqual(told[3][2:66], SECRET)

    def test_the_last_counter_holds(self):
        told = line(new(3, SCRIPT), try_one(3), counter(77, 4, 2, OTHER_SCRIPT), look(), counter(*NEW_COUNTER), look(),
                    try_one(3))
        self.assertEqual(told[2:], [
            [0], looked(NEW_BOX, (77, 4, 2, OTHER_SCRIPT)), [0], looked(NEW_BOX, NEW_COUNTER), [-2, 0]])

    def test_a_counter_put_there_again_gives_its_tries_back(self):
        there = begun_counter(3, SCRIPT)
        told = line(new(3, SCRIPT), *[try_one(4)] * 11, counter(*there), try_one(3))
        self.assertEqual(told[11:], [[-28, 0], [0], [9, told_row(SCRIPT, 3), 0]])

    def test_all_that_is_asked_of_a_counter_put_there(self):
        told = line(counter(77, 8, 1, OTHER_SCRIPT), new(5, []), try_one(6), free(76), free(77), look())
        self.assertEqual(told[1:], [
            [-1, 0], [1, told_row(OTHER_SCRIPT, 6), 0], [0, 0], [-28, 0],
            looked(NEW_BOX, (77, 10, 1, OTHER_SCRIPT))])


class LookTest(unittest.TestCase):
    def test_a_new_object_is_all_zeros(self):
        self.assertEqual(line(look()), [[0] * 80])

    def test_the_box_and_then_the_counter(self):
        told = line(box(1001, list(range(64))), counter(1002, 1003, 1004, list(range(2000, 2011))), look())[2]
        self.assertEqual(told, [0, 1001] + list(range(64)) + [1002, 1003, 1004] + list(range(2000, 2011)))

    def test_look_changes_nothing(self):
        calls = [seal(9, SECRET), new(3, SCRIPT), try_one(3), free(1), open_box(9),
                 free(told_pass(told_row(SCRIPT, 3))), try_one(4), box(5, BYTES), counter(77, 11, 3, [TOP] * 11),
                 free(77)]
        looking = [one for call in calls for one in (call, look(), look())]
        told = line(*looking)
        self.assertEqual(told[::3], line(*calls))
        self.assertEqual(told[1::3], told[2::3])

    def test_behind_every_call(self):
        y = told_row(SCRIPT, 3)
        sealed = sealed_box(y, SECRET)
        steps = [
            (name(1234), NEW_BOX, NEW_COUNTER),
            (name(10000), NEW_BOX, NEW_COUNTER),
            (open_box(0), NEW_BOX, NEW_COUNTER),
            (try_one(3), NEW_BOX, NEW_COUNTER),
            (free(0), NEW_BOX, NEW_COUNTER),
            (new(P, []), NEW_BOX, NEW_COUNTER),
            (new(3, SCRIPT), NEW_BOX, begun_counter(3, SCRIPT)),
            (new(3, []), NEW_BOX, begun_counter(3, SCRIPT)),
            (seal(P, SECRET), NEW_BOX, begun_counter(3, SCRIPT)),
            (seal(y, SECRET), sealed, begun_counter(3, SCRIPT)),
            (try_one(4), sealed, begun_counter(3, SCRIPT, 1)),
            (try_one(P), sealed, begun_counter(3, SCRIPT, 1)),
            (open_box(y), sealed, begun_counter(3, SCRIPT, 1)),
            (open_box(y ^ 1), sealed, begun_counter(3, SCRIPT, 1)),
            (free(0), sealed, begun_counter(3, SCRIPT, 2)),
            (free(told_pass(y)), sealed, begun_counter(3, SCRIPT, 2, 2)),
            (try_one(3), sealed, begun_counter(3, SCRIPT, 3, 2)),
            (new(4, OTHER_SCRIPT), sealed, begun_counter(4, OTHER_SCRIPT)),
            (box(6, BYTES), (6, BYTES), begun_counter(4, OTHER_SCRIPT)),
            (counter(8, 10, 1, SCRIPT), (6, BYTES), (8, 10, 1, SCRIPT)),
            (try_one(3), (6, BYTES), (8, 10, 1, SCRIPT)),
            (free(8), (6, BYTES), (8, 10, 1, SCRIPT)),
            (counter(8, 10, 3, SCRIPT), (6, BYTES), (8, 10, 3, SCRIPT)),
            (new(3, []), (6, BYTES), (8, 10, 3, SCRIPT)),
            (try_one(3), (6, BYTES), (8, 10, 3, SCRIPT)),
            (free(8), (6, BYTES), (8, 10, 3, SCRIPT)),
        ]
        told = line(*[one for call, kept_box, kept_counter in steps for one in (call, look())])
        for i, (call, kept_box, kept_counter) in enumerate(steps):
            self.assertEqual(told[2 * i + 1], looked(kept_box, kept_counter), call)


if __name__ == "__main__":
    unittest.main()
