"""How the numbers and rows of a list of calls are read."""

import unittest

from tentries.reading import Reader


class ReaderTest(unittest.TestCase):
    def test_numbers_and_rows_one_behind_another(self):
        numbers = [7, 3, 1, 2, 3, 0, 8]
        reader = Reader(numbers)
        self.assertEqual(reader.next_number(), 7)
        self.assertEqual(reader.next_row(), [1, 2, 3])
        self.assertEqual(reader.next_row(), [])
        self.assertTrue(reader.has_more())
        self.assertEqual(reader.next_number(), 8)
        self.assertFalse(reader.has_more())
        self.assertEqual(numbers, [7, 3, 1, 2, 3, 0, 8])

    def test_a_row_is_a_copy(self):
        numbers = [2, 5, 6]
        row = Reader(numbers).next_row()
        row[0] = 9
        self.assertEqual(numbers, [2, 5, 6])


if __name__ == "__main__":
    unittest.main()
