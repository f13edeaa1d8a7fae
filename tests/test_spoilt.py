"""The row ahead of point 4: new and try answer -71 if the counter is spoilt."""

import unittest

from tentries.acts import new as do_new
from tentries.acts import try_one as do_try_one
from tentries.asking import Asker
from tentries.kept import Kept

from lines import P, TOP, shown


def kept_with(state, tries):
    kept = Kept()
    kept.state = state
    kept.tries = tries
    return kept


def highest_kept(tries):
    """A counter that is just not spoilt."""
    kept = kept_with(2, tries)
    kept.pass_told = TOP
    kept.row = [P - 1] * 11
    return kept


class SpoiltTest(unittest.TestCase):
    def refused(self, kept, x, number):
        before = shown(kept)
        asker = Asker()
        self.assertEqual(do_new(kept, asker, x, []), [number])
        self.assertEqual(do_try_one(kept, x), [number])
        self.assertEqual((asker.how_many, asker.asked), (0, []))
        self.assertEqual(shown(kept), before)

    def test_a_state_above_2(self):
        for state in (3, 4, 2 ** 32 - 1):
            for tries in (0, 10):
                self.refused(kept_with(state, tries), 3, -71)

    def test_tries_above_10(self):
        for state in (0, 1, 2):
            for tries in (11, 12, 2 ** 32 - 1):
                self.refused(kept_with(state, tries), 3, -71)

    def test_a_number_of_the_row_not_below_p(self):
        for state in (0, 1, 2):
            for i in range(11):
                for number in (P, P + 1, TOP):
                    kept = kept_with(state, 0)
                    kept.row[i] = number
                    self.refused(kept, 3, -71)

    def test_a_spoilt_counter_is_told_ahead_of_x(self):
        for x in (P, TOP):
            self.refused(kept_with(3, 0), x, -71)
            self.refused(kept_with(1, 11), x, -71)

    def test_a_counter_that_is_just_not_spoilt(self):
        self.refused(highest_kept(10), P, -22)
        self.assertEqual(do_new(highest_kept(10), Asker(), 2, [1] * 11), [0, 2047])
        self.assertEqual(do_try_one(highest_kept(10), 1), [-28])
        self.assertEqual(do_try_one(highest_kept(9), 1), [0, P - 11])


if __name__ == "__main__":
    unittest.main()
