"""Promises 3 and 4: sg_sign and sg_has."""

import unittest

from tests.files import feature, file, has, opened, piece, sign, talk


class Sign(unittest.TestCase):
    PIECES = [piece(10, 10, 40), piece(65, 70, 1), piece(71, 72, 30), piece(0x10FFFD, 0x10FFFF, 7)]

    def signs(self, pieces, *characters):
        told = talk(opened(file(50, pieces)), *[sign(character) for character in characters])
        return [one for answer in told[1:] for one in answer]

    def test_first_middle_and_last_of_a_piece(self):
        self.assertEqual(self.signs(self.PIECES, 65, 66, 68, 69, 70), [1, 2, 4, 5, 6])
        self.assertEqual(self.signs(self.PIECES, 10), [40])
        self.assertEqual(self.signs(self.PIECES, 71, 72), [30, 31])
        self.assertEqual(self.signs(self.PIECES, 0x10FFFD, 0x10FFFE, 0x10FFFF), [7, 8, 9])

    def test_before_between_and_behind_the_pieces(self):
        self.assertEqual(self.signs(self.PIECES, 0, 9, 11, 64, 73, 0x10FFFC), [0] * 6)
        self.assertEqual(self.signs(self.PIECES[:3], 73, 74, 0x10FFFF), [0] * 3)

    def test_above_10ffffh(self):
        self.assertEqual(self.signs(self.PIECES, 0x110000, 2 ** 31, 2 ** 32 - 1), [0, 0, 0])

    def test_no_pieces(self):
        self.assertEqual(self.signs([], 0, 65, 0x10FFFF, 2 ** 32 - 1), [0] * 4)

    def test_one_piece(self):
        self.assertEqual(self.signs([piece(0, 2, 3)], 0, 1, 2, 3), [3, 4, 5, 0])

    def test_each_of_many_pieces(self):
        for count in (2, 3, 7, 8, 9, 40):
            pieces = [piece(3 * k + 1, 3 * k + 2, k) for k in range(count)]
            asked = range(3 * count + 2)
            wanted = [0 if character % 3 == 0 or character > 3 * count else
                      character // 3 + character % 3 - 1 for character in asked]
            self.assertEqual(self.signs(pieces, *asked), wanted)

    def test_no_file(self):
        self.assertEqual(talk(sign(0), sign(65), sign(2 ** 32 - 1)), [[-4]] * 3)


class Has(unittest.TestCase):
    def asked(self, tags, *asked):
        told = talk(opened(file(1, features=[feature(tag) for tag in tags])), *[has(tag) for tag in asked])
        return [one for answer in told[1:] for one in answer]

    def test_each_tag_that_there_is(self):
        tags = [0, 1, 0x6B65726E, 0x6C696761, 2 ** 32 - 1]
        self.assertEqual(self.asked(tags, *tags), [1] * 5)

    def test_others(self):
        self.assertEqual(self.asked([5, 0x6B65726E], 4, 6, 0x6B65726D, 0x6B65726F, 0x6E72656B, 0x726E), [0] * 6)

    def test_0_and_the_highest(self):
        self.assertEqual(self.asked([1], 0, 2 ** 32 - 1), [0, 0])
        self.assertEqual(self.asked([0], 0, 2 ** 32 - 1), [1, 0])
        self.assertEqual(self.asked([2 ** 32 - 1], 0, 2 ** 32 - 1), [0, 1])

    def test_no_features(self):
        self.assertEqual(self.asked([], 0, 1, 2 ** 32 - 1), [0, 0, 0])

    def test_no_file(self):
        self.assertEqual(talk(has(0), has(2 ** 32 - 1)), [[-4]] * 2)
