"""Point 1: name."""

import unittest

from lines import SCRIPT, TOP, line, name, new, open_box, seal, try_one, SECRET


class NameTest(unittest.TestCase):
    def test_ordinary_numbers(self):
        self.assertEqual(line(name(1234)), [[0, 1234016047, 1, 1, 1234]])
        self.assertEqual(line(name(1)), [[0, 1012348, 1, 1, 1]])

    def test_lowest_number(self):
        self.assertEqual(line(name(0)), [[0, 12345, 1, 1, 0]])

    def test_highest_number_of_four_digits(self):
        self.assertEqual(line(name(9999)), [[0, 9999042342, 1, 1, 9999]])

    def test_numbers_above_four_digits_are_refused_and_nothing_is_asked(self):
        for number in (10000, 10001, 99999, 2 ** 32 - 1):
            self.assertEqual(line(name(number)), [[-22, 0]])

    def test_each_name_asks_for_itself_alone(self):
        self.assertEqual(
            line(name(7), name(10000), name(7), name(8)),
            [[0, 7012366, 1, 1, 7], [-22, 0], [0, 7012366, 1, 1, 7], [0, 8012369, 1, 1, 8]])

    def test_name_changes_nothing(self):
        calls = [new(5, SCRIPT), seal(9, SECRET), try_one(5), open_box(9), try_one(6)]
        named = []
        for call in calls:
            named.extend([call, name(77), name(10000)])
        self.assertEqual(line(*named)[::3], line(*calls))
        self.assertEqual(line(name(5), try_one(TOP), try_one(5))[1:], [[-22, 0], [-2, 0]])


if __name__ == "__main__":
    unittest.main()
