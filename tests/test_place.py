"""Promise 5: the rules that place."""

import unittest

from tests.files import (TAG, anchors, exchange, feature, file, move, opened, pairs, piece, placed, put, ruled, spread,
                         talk)

# Signs 10 to 14 are bases, 15 to 19 joined ones, 20 to 24 marks; the others have no class.
CLASSES = [0] * 10 + [1] * 5 + [2] * 5 + [3] * 5 + [0] * 7
WIDTHS = [100 + one for one in range(32)]
BASE, JOINED, MARK = 10, 15, 20


class PlaceTest(unittest.TestCase):
    def laid(self, places, characters):
        """(width, right, up) of each sign."""
        return [one[2:] for one in placed(ruled((), places, CLASSES, widths=WIDTHS), characters)]

    def widths(self, places, characters):
        return [one[0] for one in self.laid(places, characters)]


class Widths(PlaceTest):
    def test_each_is_as_wide_as_its_width_and_not_moved(self):
        self.assertEqual(self.laid([], [0, 1, 31, 40]), [(100, 0, 0), (101, 0, 0), (131, 0, 0), (100, 0, 0)])

    def test_widths_are_those_of_the_signs_in_the_end(self):
        content = ruled([exchange([(1, 2)]), spread([(3, [4, 5])])], (), CLASSES, widths=WIDTHS)
        self.assertEqual([one[2] for one in placed(content, [1, 3])], [102, 104, 105])

    def test_the_widest(self):
        self.assertEqual(placed(ruled((), (), [0], widths=[65535]), [0]), [(0, 0, 65535, 0, 0)])


class Move(PlaceTest):
    def test_moved_and_made_wider(self):
        rule = move([(1, 5, 6, 7), (3, -5, -6, -7)])
        self.assertEqual(self.laid([rule], [1, 2, 3, 1]), [(108, 5, 6), (102, 0, 0), (96, -5, -6), (108, 5, 6)])

    def test_several_rules_add_up(self):
        rules = [move([(1, 5, 6, 7)]), move([(1, -1, -2, -3)]), move([(2, 1, 1, 1)])]
        self.assertEqual(self.laid(rules, [1, 2]), [(105, 4, 4), (103, 1, 1)])

    def test_the_farthest(self):
        self.assertEqual(self.laid([move([(1, 32767, -32768, -32768), (2, -32768, 32767, 32767)])], [1, 2]),
                         [(101 - 32768, 32767, -32768), (102 + 32767, -32768, 32767)])

    def test_below_0_is_told_as_4294967296_more(self):
        content = ruled((), [move([(1, -1, -2, -3)])])
        self.assertEqual(talk(opened(content), put([1]))[1], [1, 1, 0, 4294967293, 4294967295, 4294967294])

    def test_whats_passed_over(self):
        for passes in range(8):
            rule = move([(one, 1, 2, 3) for one in (9, BASE, JOINED, MARK)], passes)
            for one, bit in ((9, 0), (BASE, 1), (JOINED, 2), (MARK, 4)):
                wanted = (100 + one, 0, 0) if passes & bit else (103 + one, 1, 2)
                with self.subTest(passes=passes, one=one):
                    self.assertEqual(self.laid([rule], [1, one, 2]), [(101, 0, 0), wanted, (102, 0, 0)])


class Pairs(PlaceTest):
    def test_the_first_is_wider(self):
        rule = pairs([(1, 2, -50), (2, 1, 7), (2, 2, 9)])
        self.assertEqual(self.widths([rule], [1, 2]), [51, 102])
        self.assertEqual(self.widths([rule], [1, 1, 2, 3]), [101, 51, 102, 103])
        self.assertEqual(self.laid([rule], [1, 2]), [(51, 0, 0), (102, 0, 0)])

    def test_the_second_may_be_the_first_of_the_next(self):
        rule = pairs([(1, 2, -50), (2, 1, 7), (2, 2, 9)])
        self.assertEqual(self.widths([rule], [1, 2, 2, 1, 2]), [51, 111, 109, 51, 102])

    def test_nothing_fits(self):
        rule = pairs([(1, 2, -50)])
        self.assertEqual(self.widths([rule], [2, 1]), [102, 101])
        self.assertEqual(self.widths([rule], [1]), [101])
        self.assertEqual(self.widths([rule], [1, 3, 2]), [101, 103, 102])
        self.assertEqual(self.laid([rule], []), [])

    def test_whats_passed_over_in_between(self):
        for passes in range(8):
            rule = pairs([(1, 2, 50)], passes)
            for one, bit in ((9, 0), (BASE, 1), (JOINED, 2), (MARK, 4)):
                wanted = 151 if passes & bit else 101
                with self.subTest(passes=passes, one=one):
                    self.assertEqual(self.widths([rule], [1, one, 2]), [wanted, 100 + one, 102])
                    self.assertEqual(self.widths([rule], [one, 1, 2, one]), [100 + one, 151, 102, 100 + one])

    def test_several_passed_over_in_between(self):
        self.assertEqual(self.widths([pairs([(1, 2, 50)], 7)], [1, 10, 15, 20, 2]), [151, 110, 115, 120, 102])
        self.assertEqual(self.widths([pairs([(1, 2, 50)], 5)], [1, 10, 15, 20, 2]), [101, 110, 115, 120, 102])

    def test_what_is_passed_over_is_in_no_pair(self):
        rule = pairs([(1, 20, 50), (20, 1, 60), (20, 20, 70)], 4)
        self.assertEqual(self.widths([rule], [1, 20, 20, 1]), [101, 120, 120, 101])


class MarkToBase(PlaceTest):
    RULE = anchors(3, [(20, 0, 3, 4), (21, 7, -10, -20)],
                   [(5, 0, 2, 2), (10, 0, 30, 40), (10, 7, 50, 60), (15, 0, 1, 1)])

    def test_moved_to_where_the_anchors_meet(self):
        self.assertEqual(self.laid([self.RULE], [10, 20]), [(110, 0, 0), (120, 30 - 3 - 110, 40 - 4)])
        self.assertEqual(self.laid([self.RULE], [10, 21]), [(110, 0, 0), (121, 50 + 10 - 110, 60 + 20)])
        self.assertEqual(self.laid([self.RULE], [15, 20])[1], (120, 1 - 3 - 115, 1 - 4))
        self.assertEqual(self.laid([self.RULE], [5, 20])[1], (120, 2 - 3 - 105, 2 - 4))

    def test_marks_in_between(self):
        laid = self.laid([self.RULE], [10, 22, 20, 21])
        self.assertEqual(laid[1], (122, 0, 0))
        self.assertEqual(laid[2], (120, 30 - 3 - 110 - 122, 36))
        self.assertEqual(laid[3], (121, 50 + 10 - 110 - 122 - 120, 80))

    def test_the_nearest_that_is_no_mark(self):
        self.assertEqual(self.laid([self.RULE], [10, 1, 20])[2], (120, 0, 0))
        self.assertEqual(self.laid([self.RULE], [1, 10, 20])[2], (120, 30 - 3 - 110, 36))
        self.assertEqual(self.laid([self.RULE], [10, 15, 20])[2], (120, 1 - 3 - 115, -3))

    def test_no_base(self):
        self.assertEqual(self.laid([self.RULE], [20, 10]), [(120, 0, 0), (110, 0, 0)])
        self.assertEqual(self.laid([self.RULE], [22, 20]), [(122, 0, 0), (120, 0, 0)])

    def test_a_base_thats_not_among_the_bases(self):
        self.assertEqual(self.laid([self.RULE], [11, 20])[1], (120, 0, 0))

    def test_a_base_without_the_marks_class(self):
        self.assertEqual(self.laid([self.RULE], [15, 21])[1], (121, 0, 0))

    def test_a_mark_thats_not_among_the_marks(self):
        self.assertEqual(self.laid([self.RULE], [10, 22])[1], (122, 0, 0))

    def test_whats_passed_over_may_be_the_base(self):
        for passes in (1, 2, 3):
            rule = anchors(3, [(20, 0, 3, 4)], [(9, 0, 5, 5), (10, 0, 30, 40), (15, 0, 1, 1)], passes)
            self.assertEqual(self.laid([rule], [9, 10, 20])[2], (120, 30 - 3 - 110, 36))
            self.assertEqual(self.laid([rule], [9, 15, 20])[2], (120, 1 - 3 - 115, -3))
            self.assertEqual(self.laid([rule], [9, 11, 20])[2], (120, 0, 0))

    def test_a_mark_thats_passed_over(self):
        for passes in range(8):
            rule = anchors(3, [(20, 0, 3, 4)], [(10, 0, 30, 40)], passes)
            wanted = (120, 0, 0) if passes & 4 else (120, 30 - 3 - 110, 36)
            self.assertEqual(self.laid([rule], [10, 20]), [(110, 0, 0), wanted])

    def test_the_base_is_moved_and_wider(self):
        rules = [move([(10, 1000, 2000, -300), (22, 5, 5, 17)]), self.RULE]
        laid = self.laid(rules, [10, 22, 20])
        self.assertEqual(laid[0], (-190, 1000, 2000))
        self.assertEqual(laid[2], (120, 1000 + 30 - 3 + 190 - 122 - 17, 2000 + 36))

    def test_its_own_earlier_move_is_forgotten_but_not_how_wide_it_is(self):
        rules = [move([(20, 500, 600, 700)]), self.RULE]
        self.assertEqual(self.laid(rules, [10, 20])[1], (820, 30 - 3 - 110, 36))

    def test_its_moved_further_by_a_later_rule(self):
        rules = [self.RULE, move([(10, 1, 1, 1), (20, 500, 600, 700)])]
        self.assertEqual(self.laid(rules, [10, 20]), [(111, 1, 1), (820, 30 - 3 - 110 + 500, 636)])

    def test_a_sign_among_the_marks_needs_no_class(self):
        rule = anchors(3, [(1, 0, 3, 4), (10, 0, 0, 0)], [(1, 0, 2, 2), (10, 0, 30, 40)])
        self.assertEqual(self.laid([rule], [10, 1, 1]), [(110, 0, 0), (101, 30 - 3 - 110, 36),
                                                         (101, (30 - 3 - 110) + 2 - 3 - 101, 36 + 2 - 4)])

    def test_pairs_ahead_of_it_count(self):
        rules = [pairs([(10, 20, -40)]), self.RULE]
        self.assertEqual(self.laid(rules, [10, 20]), [(70, 0, 0), (120, 30 - 3 - 70, 36)])


class MarkToMark(PlaceTest):
    RULE = anchors(4, [(20, 0, 3, 4), (21, 7, -10, -20)], [(10, 0, 9, 9), (20, 7, 50, 60), (22, 0, 30, 40)])

    def test_moved_to_where_the_anchors_meet(self):
        self.assertEqual(self.laid([self.RULE], [22, 20]), [(122, 0, 0), (120, 30 - 3 - 122, 36)])

    def test_one_on_another(self):
        first = (120, 30 - 3 - 122, 36)
        self.assertEqual(self.laid([self.RULE], [22, 20, 21]),
                         [(122, 0, 0), first, (121, first[1] + 50 + 10 - 120, first[2] + 80)])

    def test_the_sign_right_before_is_no_mark(self):
        self.assertEqual(self.laid([self.RULE], [10, 20])[1], (120, 0, 0))
        self.assertEqual(self.laid([self.RULE], [22, 10, 20])[2], (120, 0, 0))
        self.assertEqual(self.laid([self.RULE], [20]), [(120, 0, 0)])

    def test_only_the_sign_right_before(self):
        self.assertEqual(self.laid([self.RULE], [22, 23, 20])[2], (120, 0, 0))
        self.assertEqual(self.laid([self.RULE], [22, 1, 20])[2], (120, 0, 0))

    def test_whats_passed_over_isnt_left_out(self):
        for passes in (1, 2, 3):
            rule = anchors(4, [(20, 0, 3, 4)], [(22, 0, 30, 40)], passes)
            self.assertEqual(self.laid([rule], [22, 10, 20])[2], (120, 0, 0))
            self.assertEqual(self.laid([rule], [22, 15, 20])[2], (120, 0, 0))
            self.assertEqual(self.laid([rule], [22, 20])[1], (120, 30 - 3 - 122, 36))

    def test_a_mark_thats_passed_over(self):
        rule = anchors(4, [(1, 0, 0, 0), (20, 0, 3, 4)], [(22, 0, 30, 40)], 4)
        self.assertEqual(self.laid([rule], [22, 20])[1], (120, 0, 0))
        # The mark before it is passed over too, and is there all the same.
        self.assertEqual(self.laid([rule], [22, 1])[1], (101, 30 - 122, 40))

    def test_not_among_the_marks_or_the_bases_or_of_another_class(self):
        self.assertEqual(self.laid([self.RULE], [22, 23])[1], (123, 0, 0))
        self.assertEqual(self.laid([self.RULE], [23, 20])[1], (120, 0, 0))
        self.assertEqual(self.laid([self.RULE], [22, 21])[1], (121, 0, 0))

    def test_with_a_base_below(self):
        rules = [anchors(3, [(22, 0, 1, 2)], [(10, 0, 30, 40)]), self.RULE]
        first = (122, 30 - 1 - 110, 38)
        self.assertEqual(self.laid(rules, [10, 22, 20]), [(110, 0, 0), first, (120, first[1] + 27 - 122, 38 + 36)])


class Order(PlaceTest):
    def test_rules_that_place_come_behind_all_that_change(self):
        content = file(32, [piece(0, 31, 0)], CLASSES, WIDTHS, [exchange([(1, 2)]), exchange([(2, 3)])],
                       [move([(1, 9, 9, 9), (3, 1, 2, 3)])], [feature(TAG, [0, 1], [0])])
        self.assertEqual(placed(content, [1, 2]), [(3, 0, 106, 1, 2), (3, 1, 106, 1, 2)])

    def test_far_beyond_32_bits_counts_modulo(self):
        rules = [move([(1, -32768, 32767, 32767)])] * 64
        content = ruled((), rules, widths=[65535] * 32)
        self.assertEqual(talk(opened(content), put([1]))[1],
                         [1, 1, 0, 65535 + 64 * 32767, 2 ** 32 - 64 * 32768, 64 * 32767])
