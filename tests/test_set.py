"""Promise 5: features asked for, the row's length, room, and the order of refusals."""

import unittest

from tests.files import (TAG, around, context, exchange, feature, file, join, move, opened, pairs, piece, placed, put,
                         ruled, set_numbers, set_signs, spread, start, talk)


class Characters(unittest.TestCase):
    def test_each_becomes_the_sign_of_its_piece_or_0(self):
        content = file(9, [piece(65, 67, 3), piece(0x10FFFF, 0x10FFFF, 8)], widths=range(9))
        self.assertEqual(placed(content, [64, 65, 67, 68, 0x10FFFF, 0x110000, 2 ** 32 - 1]),
                         [(0, 0, 0, 0, 0), (3, 1, 3, 0, 0), (5, 2, 5, 0, 0), (0, 3, 0, 0, 0), (8, 4, 8, 0, 0),
                          (0, 5, 0, 0, 0), (0, 6, 0, 0, 0)])

    def test_no_characters(self):
        self.assertEqual(talk(opened(ruled([exchange([(1, 2)])])), put([]), put([], []), put([], room=0)),
                         [[32], [0], [0], [0]])

    def test_1024_characters(self):
        content = ruled([exchange([(1, 2)])])
        self.assertEqual(set_signs(content, [1, 3] * 512), [2, 3] * 512)
        self.assertEqual(set_numbers(content, [1, 3] * 512), list(range(1024)))

    def test_just_what_is_answered(self):
        content = ruled([spread([(1, [2, 3])])], [move([(3, -1, 2, 3)])], count=4, widths=[10, 20, 30, 40])
        self.assertEqual(talk(opened(content), put([1, 0])),
                         [[4], [3, 2, 0, 30, 0, 0, 3, 0, 43, 2 ** 32 - 1, 2, 0, 1, 10, 0, 0]])


class Tags(unittest.TestCase):
    # One rule each: 1 becomes 2, then 2 becomes 3, then 3 becomes 4; widths grow by 1, 10, 100.
    CHANGES = [exchange([(1, 2)]), exchange([(2, 3)]), exchange([(3, 4)])]
    PLACES = [move([(one, 0, 0, wider) for one in range(1, 5)]) for wider in (1, 10, 100)]

    def row(self, features, tags):
        content = file(9, [piece(0, 8, 0)], None, None, self.CHANGES, self.PLACES, features)
        return [(one[0], one[2]) for one in placed(content, [1], tags)]

    def test_no_tags(self):
        self.assertEqual(self.row([feature(1, [0, 1, 2], [0, 1, 2])], []), [(1, 0)])

    def test_only_those_asked_for(self):
        features = [feature(1, [0], [0]), feature(2, [1], [1]), feature(3, [2], [2])]
        self.assertEqual(self.row(features, [1]), [(2, 1)])
        self.assertEqual(self.row(features, [2]), [(1, 10)])
        self.assertEqual(self.row(features, [1, 2]), [(3, 11)])
        self.assertEqual(self.row(features, [1, 3]), [(2, 101)])
        self.assertEqual(self.row(features, [1, 2, 3]), [(4, 111)])

    def test_in_any_order(self):
        features = [feature(1, [2], [2]), feature(2, [1], [1]), feature(3, [0], [0])]
        for tags in ([1, 2, 3], [3, 2, 1], [2, 3, 1]):
            self.assertEqual(self.row(features, tags), [(4, 111)])

    def test_as_often_as_they_like(self):
        features = [feature(1, [0], [0]), feature(2, [1], [1])]
        self.assertEqual(self.row(features, [1, 1]), [(2, 1)])
        self.assertEqual(self.row(features, [2, 1, 2, 1]), [(3, 11)])
        self.assertEqual(self.row(features, [1] * 64), [(2, 1)])

    def test_those_that_there_arent_mean_nothing(self):
        features = [feature(1, [0], [0])]
        self.assertEqual(self.row(features, [0, 2, 2 ** 32 - 1]), [(1, 0)])
        self.assertEqual(self.row(features, [0, 1, 2, 2 ** 32 - 1]), [(2, 1)])
        self.assertEqual(self.row([], [0, 1]), [(1, 0)])

    def test_0_and_the_highest_are_tags(self):
        features = [feature(0, [0], []), feature(2 ** 32 - 1, [1], [2])]
        self.assertEqual(self.row(features, [0]), [(2, 0)])
        self.assertEqual(self.row(features, [2 ** 32 - 1, 0]), [(3, 100)])

    def test_a_rule_in_several_features_is_done_once(self):
        features = [feature(1, [0, 1], [0, 1]), feature(2, [1, 2], [0, 2])]
        self.assertEqual(self.row(features, [1, 2]), [(4, 111)])
        content = file(9, [piece(0, 8, 0)], None, None, [spread([(1, [1, 1])])], (), [feature(1, [0]), feature(2, [0])])
        self.assertEqual(set_signs(content, [1], [2, 1, 2]), [1, 1])
        swap = [exchange([(1, 2), (2, 1)])]
        content = file(9, [piece(0, 8, 0)], None, None, swap, (), [feature(1, [0]), feature(2, [0])])
        self.assertEqual(set_signs(content, [1, 2], [1, 2]), [2, 1])

    def test_in_the_order_of_their_numbers_over_all_features(self):
        changes = [exchange([(1, 2)]), exchange([(2, 3)]), exchange([(1, 9), (3, 1)]), exchange([(1, 5)])]
        content = file(10, [piece(0, 9, 0)], None, None, changes, (), [feature(1, [1, 3]), feature(2, [0, 2])])
        for tags, wanted in (([1, 2], 5), ([2, 1], 5), ([1], 5), ([2], 2)):
            self.assertEqual(set_signs(content, [1], tags), [wanted])

    def test_places_in_the_order_of_their_numbers(self):
        places = [pairs([(1, 2, 5)]), move([(1, 0, 0, 7)])]
        content = file(9, [piece(0, 8, 0)], None, None, (), places, [feature(1, [], [1]), feature(2, [], [0])])
        self.assertEqual([one[2] for one in placed(content, [1, 2], [1, 2])], [12, 0])

    def test_setting_leaves_the_file_as_it_was(self):
        content = ruled([exchange([(1, 2)]), spread([(2, [3, 4])]), join([(4, [3], 5)]),
                         around([context([[5]], acts=[(0, 4)])]), exchange([(5, 6)])], [move([(6, 1, 1, 1)])])
        told = talk(opened(content), put([1, 1, 2]), put([1, 1, 2]), put([1, 1, 2], []), put([1, 1, 2]))
        self.assertEqual(told[1], told[2])
        self.assertEqual(told[1], told[4])
        self.assertEqual(told[3], [3, 1, 0, 0, 0, 0, 1, 1, 0, 0, 0, 2, 2, 0, 0, 0])


class Length(unittest.TestCase):
    EIGHT = spread([(1, [2] * 8)])

    def told(self, changes, characters, room=4096):
        return talk(opened(ruled(changes)), put(characters, room=room))[1]

    def test_just_4096(self):
        told = self.told([self.EIGHT], [1] * 512)
        self.assertEqual(told[0], 4096)
        self.assertEqual(len(told), 1 + 5 * 4096)
        self.assertEqual(told[1:6], [2, 0, 0, 0, 0])
        self.assertEqual(told[-5:], [2, 511, 0, 0, 0])

    def test_one_more(self):
        self.assertEqual(self.told([self.EIGHT], [1] * 512 + [3]), [-5])
        self.assertEqual(self.told([self.EIGHT], [3] + [1] * 512), [-5])
        self.assertEqual(self.told([self.EIGHT], [1] * 511 + [3] * 8)[0], 4096)
        self.assertEqual(self.told([self.EIGHT], [1] * 511 + [3] * 9), [-5])

    def test_far_too_long(self):
        self.assertEqual(self.told([self.EIGHT], [1] * 1024), [-5])
        again = spread([(1, [1] * 8)])
        self.assertEqual(self.told([again] * 64, [1]), [-5])
        self.assertEqual(self.told([again] * 4, [1])[0], 4096)
        self.assertEqual(self.told([again] * 4, [1, 3]), [-5])
        self.assertEqual(self.told([again] * 4 + [self.EIGHT], [1]), [-5])

    def test_too_long_for_a_while(self):
        shrink = join([(2, [2, 2, 2, 2, 2, 2, 2], 3)])
        self.assertEqual(self.told([self.EIGHT, shrink], [1] * 513), [-5])
        self.assertEqual(self.told([self.EIGHT, shrink], [1] * 512)[0], 512)
        self.assertEqual(self.told([self.EIGHT, shrink, spread([(3, [2] * 8)])], [1] * 512)[0], 4096)

    def test_a_refusal_changes_nothing(self):
        content = ruled([self.EIGHT])
        told = talk(opened(content), put([1] * 1024), put([3]), put([3], room=0), put([3], room=1))
        self.assertEqual(told, [[32], [-5], [1, 3, 0, 0, 0, 0], [-6], [1, 3, 0, 0, 0, 0]])


class Room(unittest.TestCase):
    def told(self, characters, room, changes=()):
        return talk(opened(ruled(changes)), put(characters, room=room))[1]

    def test_0(self):
        self.assertEqual(self.told([], 0), [0])
        self.assertEqual(self.told([1], 0), [-6])

    def test_just_enough_and_one_less(self):
        self.assertEqual(self.told([1, 2, 3], 3)[0], 3)
        self.assertEqual(self.told([1, 2, 3], 4)[0], 3)
        self.assertEqual(self.told([1, 2, 3], 2), [-6])
        self.assertEqual(self.told([1] * 1024, 1024)[0], 1024)
        self.assertEqual(self.told([1] * 1024, 1023), [-6])

    def test_it_counts_the_signs_in_the_end(self):
        self.assertEqual(self.told([1, 2], 1, [join([(1, [2], 3)])]), [1, 3, 0, 0, 0, 0])
        self.assertEqual(self.told([1, 2], 2, [spread([(1, [3, 4])])]), [-6])
        self.assertEqual(self.told([1, 2], 3, [spread([(1, [3, 4])])])[0], 3)

    def test_4096(self):
        eight = spread([(1, [2] * 8)])
        self.assertEqual(self.told([1], 4096)[0], 1)
        self.assertEqual(self.told([1] * 512, 4096, [eight])[0], 4096)
        self.assertEqual(self.told([1] * 512, 4095, [eight]), [-6])

    def test_below_0_and_above_4096(self):
        for room in (-1, -2147483648, 4097, 2147483647):
            self.assertEqual(talk(opened(ruled()), put([], [], room))[1], [-1])


class Refusals(unittest.TestCase):
    def test_no_file_comes_first(self):
        told = talk(put([], [], -1), put([], [], 4097), put([1] * 1024), put([1], room=0), put([], [], 0))
        self.assertEqual(told, [[-4]] * 5)

    def test_no_file_after_a_start(self):
        told = talk(opened(ruled()), put([], [], -1), start(), put([], [], -1))
        self.assertEqual(told, [[32], [-1], [0], [-4]])

    def test_too_long_comes_ahead_of_no_room(self):
        content = ruled([spread([(1, [2] * 8)])])
        told = talk(opened(content), put([1] * 513, room=0), put([1] * 512, room=0), put([1] * 512 + [3], room=4095))
        self.assertEqual(told, [[32], [-5], [-6], [-5]])

    def test_a_wrong_room_comes_ahead_of_the_rest(self):
        # With a wrong room no characters are handed in; the answer is -1 even where the row is empty.
        told = talk(opened(ruled()), put([], [], -1), put([], [], 0))
        self.assertEqual(told, [[32], [-1], [0]])

    def test_after_a_wrong_room_all_is_as_before(self):
        told = talk(opened(ruled()), put([], [], 4097), put([1]), put([], (TAG,), 4096))
        self.assertEqual(told, [[32], [-1], [1, 1, 0, 0, 0, 0], [0]])
