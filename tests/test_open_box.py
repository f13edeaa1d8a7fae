"""Point 3: open, which is open_box here."""

import unittest

from lines import (NEW_COUNTER, P, SCRIPT, SECRET, TOP, begun_counter, box, counter, free, line, look, looked, name,
                   new, open_box, seal, sealed_box, told_pass, try_one)


def opened(y, secret):
    return [0, told_pass(y)] + secret + [3, 3, y, 2, y, 4, y]


class OpenBoxTest(unittest.TestCase):
    def test_what_was_sealed_is_opened(self):
        for y in (0, 1, 255, 12345, 2 ** 60 + 99, P - 1):
            for secret in (SECRET, [0] * 64, [255] * 64):
                self.assertEqual(line(seal(y, secret), open_box(y))[1], opened(y, secret))

    def test_passes(self):
        for y, told in ((0, 3037000493), (1, 2862933558814942250), (12345, 17399844927936646018),
                        (P - 1, 5803347937549586739)):
            self.assertEqual(line(seal(y, SECRET), open_box(y))[1][:2], [0, told])

    def test_y_from_p_on_is_refused_and_nothing_is_asked(self):
        for y in (P, P + 1, 2 ** 61, 2 ** 63, TOP):
            self.assertEqual(line(open_box(y)), [[-22, 0]])
            self.assertEqual(line(seal(5, SECRET), open_box(y))[1], [-22, 0])

    def test_a_wrong_mark_is_refused_and_the_mark_alone_was_asked(self):
        for y in (0, 8, 10, P - 1):
            self.assertEqual(line(seal(9, SECRET), open_box(y))[1], [-13, 1, 3, y])

    def test_a_new_box_is_opened_by_nothing_below_p(self):
        for y in (0, 1, 9999, P - 1):
            self.assertEqual(line(open_box(y)), [[-13, 1, 3, y]])

    def test_the_one_y_with_a_new_box_s_mark_is_not_below_p(self):
        self.assertEqual(line(open_box(11066951453180645397)), [[-22, 0]])

    def test_it_is_the_mark_that_counts(self):
        told = line(box(7806831264735756412, [0] * 64), open_box(1))[1]
        self.assertEqual(told[:10], [0, 2862933558814942250, 1, 1, 2, 3, 4, 5, 6, 7])
        self.assertEqual(told[66:], [3, 3, 1, 2, 1, 4, 1])

    def test_the_box_can_be_opened_again_and_again(self):
        told = line(seal(9, SECRET), open_box(9), open_box(P), open_box(8), open_box(9), open_box(9))
        self.assertEqual(told[1:], [opened(9, SECRET), [-22, 0], [-13, 1, 3, 8], opened(9, SECRET), opened(9, SECRET)])

    def test_open_changes_nothing(self):
        for kept_counter in (NEW_COUNTER, (7, 9, 2, SCRIPT), (TOP, 11, 3, [TOP] * 11)):
            before = looked(sealed_box(9, SECRET), kept_counter)
            told = line(
                seal(9, SECRET), counter(*kept_counter), open_box(9), look(), open_box(8), look(), open_box(P), look())
            self.assertEqual(told[3::2], [before] * 3)
            self.assertEqual(told[2::2], [opened(9, SECRET), [-13, 1, 3, 8], [-22, 0]])

    def test_opening_is_not_a_try(self):
        told = line(new(3, SCRIPT), open_box(1), open_box(P), try_one(3))
        self.assertEqual(told[3][0], 9)


class WholeWayTest(unittest.TestCase):
    """What holds: by the number alone, name, try and open bring the secret back."""

    def test_the_secret_comes_back_by_its_number(self):
        for number in (0, 1, 1234, 9999):
            x = line(name(number))[0][1]
            y = line(new(x, SCRIPT))[0][1]
            begun = [new(x, SCRIPT), seal(y, SECRET)]
            for wrong in range(9):
                begun.append(try_one(line(name((number + 1 + wrong) % 10000))[0][1]))
            told = line(*begun, try_one(x), open_box(y), try_one(x))
            self.assertEqual(told[11], [0, y, 0])
            self.assertEqual(told[12], opened(y, SECRET))
            self.assertEqual(told[13], [-28, 0])

    def test_the_pass_lets_go(self):
        for number in (0, 1234, 9999):
            x = line(name(number))[0][1]
            y = line(new(x, SCRIPT))[0][1]
            begun = [new(x, SCRIPT), seal(y, SECRET), try_one(x), open_box(y)]
            pass_told = line(*begun)[3][1]
            told = line(*begun, free(pass_told), look(), new(x + 1, SCRIPT))
            self.assertEqual(told[4], [1, 0])
            self.assertEqual(told[5], looked(sealed_box(y, SECRET), begun_counter(x, SCRIPT, 1, 2)))
            self.assertEqual(told[6][0], 0)

    def test_no_tries_no_letting_go(self):
        x = line(name(1234))[0][1]
        y = line(new(x, SCRIPT))[0][1]
        told = line(new(x, SCRIPT), seal(y, SECRET), *[try_one(x)] * 10, open_box(y), free(told_pass(y)))
        self.assertEqual(told[12:], [opened(y, SECRET), [-28, 0]])

    def test_a_wrong_number_does_not_open(self):
        x = line(name(1234))[0][1]
        wrong_x = line(name(4321))[0][1]
        y = line(new(x, SCRIPT))[0][1]
        wrong_y = line(new(x, SCRIPT), try_one(wrong_x))[1][1]
        told = line(
            new(x, SCRIPT), seal(y, SECRET), try_one(wrong_x), open_box(wrong_y), free(told_pass(wrong_y)), try_one(x))
        self.assertEqual(told[3:], [[-13, 1, 3, wrong_y], [0, 0], [7, y, 0]])


if __name__ == "__main__":
    unittest.main()
