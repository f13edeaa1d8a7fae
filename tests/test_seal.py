"""Point 2: seal."""

import unittest

from lines import (NEW_BOX, NEW_COUNTER, P, SCRIPT, SECRET, TOP, begun_counter, box, counter, line, look, looked, new,
                   open_box, seal, sealed_box, told_mark, told_pad, told_pass, xored)


def box_after(y, secret):
    """The mark and the bytes of the box that the secret was sealed in."""
    told = line(seal(y, secret), look())[1]
    return told[1], told[2:66]


class SealTest(unittest.TestCase):
    def test_answer_and_what_is_asked(self):
        for y in (0, 1, 255, 256, 2 ** 40 + 77, P - 1):
            self.assertEqual(line(seal(y, SECRET)), [[0, 2, 2, y, 3, y]])

    def test_y_from_p_on_is_refused_and_nothing_is_asked(self):
        for y in (P, P + 1, 2 ** 61, 2 ** 63, TOP):
            self.assertEqual(line(seal(y, SECRET), look()), [[-22, 0], looked(NEW_BOX, NEW_COUNTER)])

    def test_pad_of_nought_is_each_place(self):
        self.assertEqual(box_after(0, [0] * 64), (1442695040888963407, list(range(64))))

    def test_pad_takes_the_bytes_of_y_lowest_first_again_and_again(self):
        mark, sealed = box_after(0x0102030405060708, [0] * 64)
        self.assertEqual(sealed[:10], [8, 8, 8, 8, 8, 8, 8, 8, 16, 16])
        self.assertEqual(sealed[56:], [64] * 8)

    def test_pad_is_taken_modulo_256(self):
        mark, sealed = box_after(255, [0] * 64)
        self.assertEqual(sealed[:9], [255, 1, 2, 3, 4, 5, 6, 7, 7])
        self.assertEqual(sealed[56:], [55, 57, 58, 59, 60, 61, 62, 63])

    def test_marks(self):
        for y, told in ((1, 7806831264735756412), (12345, 2021368500568277588), (P - 1, 243637639263847157)):
            mark, sealed = box_after(y, SECRET)
            self.assertEqual(mark, told)

    def test_box_holds_the_secret_xor_the_pad(self):
        for y in (0, 1, 12345, 2 ** 60 + 99, P - 1):
            for secret in (SECRET, [0] * 64, [255] * 64):
                self.assertEqual(box_after(y, secret), (told_mark(y), xored(secret, told_pad(y))))

    def test_counter_stays(self):
        self.assertEqual(line(seal(5, SECRET), look())[1], looked(sealed_box(5, SECRET), NEW_COUNTER))
        self.assertEqual(
            line(new(3, SCRIPT), seal(5, SECRET), look())[2], looked(sealed_box(5, SECRET), begun_counter(3, SCRIPT)))
        spoilt = (TOP, 11, 3, [TOP] * 11)
        self.assertEqual(
            line(counter(*spoilt), seal(5, SECRET), look())[1:],
            [[0, 2, 2, 5, 3, 5], looked(sealed_box(5, SECRET), spoilt)])

    def test_a_refused_seal_leaves_the_box(self):
        other = [1] * 64
        self.assertEqual(
            line(seal(9, SECRET), seal(P, other), look(), seal(TOP, other), look(), open_box(9))[1:],
            [[-22, 0], looked(sealed_box(9, SECRET), NEW_COUNTER), [-22, 0],
             looked(sealed_box(9, SECRET), NEW_COUNTER), [0, told_pass(9)] + SECRET + [3, 3, 9, 2, 9, 4, 9]])

    def test_the_last_seal_holds(self):
        other = [200] * 64
        self.assertEqual(
            line(seal(9, SECRET), seal(10, other), open_box(9), open_box(10)),
            [[0, 2, 2, 9, 3, 9], [0, 2, 2, 10, 3, 10], [-13, 1, 3, 9],
             [0, told_pass(10)] + other + [3, 3, 10, 2, 10, 4, 10]])

    def test_it_holds_in_the_place_of_a_box_put_there(self):
        self.assertEqual(
            line(box(TOP, [255] * 64), seal(9, SECRET), look())[2], looked(sealed_box(9, SECRET), NEW_COUNTER))


if __name__ == "__main__":
    unittest.main()
