"""Point 2: seal."""

import unittest

from tentries.acts import seal as do_seal
from tentries.asking import Asker
from tentries.kept import Kept

from lines import P, SECRET, TOP, line, open_box, seal, shown, told_mark, told_pad, told_pass, xored


def kept_after(y, secret):
    kept = Kept()
    told = do_seal(kept, Asker(), y, secret)
    return kept, told


class SealTest(unittest.TestCase):
    def test_answer_and_what_is_asked(self):
        for y in (0, 1, 255, 256, 2 ** 40 + 77, P - 1):
            self.assertEqual(line(seal(y, SECRET)), [[0, 2, 2, y, 3, y]])

    def test_y_from_p_on_is_refused_and_nothing_is_asked(self):
        for y in (P, P + 1, 2 ** 61, 2 ** 63, TOP):
            self.assertEqual(line(seal(y, SECRET)), [[-22, 0]])

    def test_pad_of_nought_is_each_place(self):
        kept, told = kept_after(0, [0] * 64)
        self.assertEqual(told, [0])
        self.assertEqual(kept.sealed, list(range(64)))
        self.assertEqual(kept.mark, 1442695040888963407)

    def test_pad_takes_the_bytes_of_y_lowest_first_again_and_again(self):
        kept, told = kept_after(0x0102030405060708, [0] * 64)
        self.assertEqual(kept.sealed[:10], [8, 8, 8, 8, 8, 8, 8, 8, 16, 16])
        self.assertEqual(kept.sealed[56:], [64] * 8)

    def test_pad_is_taken_modulo_256(self):
        kept, told = kept_after(255, [0] * 64)
        self.assertEqual(kept.sealed[:9], [255, 1, 2, 3, 4, 5, 6, 7, 7])
        self.assertEqual(kept.sealed[56:], [55, 57, 58, 59, 60, 61, 62, 63])

    def test_marks(self):
        for y, mark in ((1, 7806831264735756412), (12345, 2021368500568277588), (P - 1, 243637639263847157)):
            kept, told = kept_after(y, SECRET)
            self.assertEqual(kept.mark, mark)

    def test_box_holds_the_secret_xor_the_pad(self):
        for y in (0, 1, 12345, 2 ** 60 + 99, P - 1):
            for secret in (SECRET, [0] * 64, [255] * 64):
                kept, told = kept_after(y, secret)
                self.assertEqual(kept.sealed, xored(secret, told_pad(y)))
                self.assertEqual(kept.mark, told_mark(y))

    def test_counter_stays(self):
        kept, told = kept_after(5, SECRET)
        self.assertEqual(shown(kept)[2:], (0, 0, 0, [0] * 11))

    def test_a_refused_seal_leaves_the_box(self):
        other = [1] * 64
        self.assertEqual(
            line(seal(9, SECRET), seal(P, other), seal(TOP, other), open_box(9))[1:],
            [[-22, 0], [-22, 0], [0, told_pass(9)] + SECRET + [3, 3, 9, 2, 9, 4, 9]])
        kept, told = kept_after(9, SECRET)
        before = shown(kept)
        self.assertEqual(do_seal(kept, Asker(), P, other), [-22])
        self.assertEqual(shown(kept), before)

    def test_the_last_seal_holds(self):
        other = [200] * 64
        self.assertEqual(
            line(seal(9, SECRET), seal(10, other), open_box(9), open_box(10)),
            [[0, 2, 2, 9, 3, 9], [0, 2, 2, 10, 3, 10], [-13, 1, 3, 9],
             [0, told_pass(10)] + other + [3, 3, 10, 2, 10, 4, 10]])

    def test_the_secret_handed_in_stays(self):
        secret = list(SECRET)
        kept, told = kept_after(9, secret)
        self.assertEqual(secret, SECRET)
        secret[0] = 0
        self.assertEqual(kept.sealed, xored(SECRET, told_pad(9)))


if __name__ == "__main__":
    unittest.main()
