"""Promise 5: the rules that change."""

import unittest

from tests.files import (TAG, around, context, exchange, feature, file, join, piece, ruled, set_numbers, set_signs,
                         spread)

# Signs 10 to 14 are bases, 15 to 19 joined ones, 20 to 24 marks; the others have no class.
CLASSES = [0] * 10 + [1] * 5 + [2] * 5 + [3] * 5 + [0] * 7
BASE, JOINED, MARK = 10, 15, 20


class ChangeTest(unittest.TestCase):
    def becomes(self, changes, characters, wanted, numbers=None):
        content = ruled(changes, classes=CLASSES)
        self.assertEqual(set_signs(content, characters), wanted)
        if numbers is not None:
            self.assertEqual(set_numbers(content, characters), numbers)

    def each_passing(self, make, classless, characters, passed, left):
        """make(passes) is a rule; characters become passed where their class is passed over, else left."""
        for one, bit in ((BASE, 1), (JOINED, 2), (MARK, 4)):
            for passes in range(8):
                with self.subTest(one=one, passes=passes):
                    wanted = passed(one) if passes & bit else left(one)
                    self.becomes([make(passes)], characters(one), wanted)
        for passes in range(8):
            self.becomes([make(passes)], characters(classless), left(classless))


class Exchange(ChangeTest):
    def test_signs_are_exchanged(self):
        self.becomes([exchange([(1, 2), (3, 4), (5, 5)])], [1, 2, 3, 4, 5, 6, 1], [2, 2, 4, 4, 5, 6, 2], list(range(7)))

    def test_a_sign_is_exchanged_once(self):
        self.becomes([exchange([(1, 2), (2, 3), (3, 1)])], [1, 2, 3], [2, 3, 1])

    def test_nothing_fits(self):
        self.becomes([exchange([(1, 2)])], [3, 4, 0], [3, 4, 0])

    def test_whats_passed_over(self):
        self.each_passing(lambda passes: exchange([(one, 30) for one in (9, BASE, JOINED, MARK)], passes), 9,
                          lambda one: [1, one, one], lambda one: [1, one, one], lambda one: [1, 30, 30])

    def test_all_are_passed_over_together(self):
        rule = exchange([(one, 30) for one in range(26)], 7)
        self.becomes([rule], [0, 10, 14, 15, 19, 20, 24, 25], [30, 10, 14, 15, 19, 20, 24, 30])


class Spread(ChangeTest):
    def test_signs_are_replaced_by_several(self):
        self.becomes([spread([(1, [2, 3]), (4, [5]), (6, [1] * 8)])], [1, 4, 7, 6, 1],
                     [2, 3, 5, 7] + [1] * 8 + [2, 3], [0, 0, 1, 2] + [3] * 8 + [4, 4])

    def test_on_behind_them(self):
        self.becomes([spread([(1, [1, 1])])], [1, 1], [1] * 4, [0, 0, 1, 1])
        self.becomes([spread([(1, [2, 1]), (2, [1, 2])])], [1, 2], [2, 1, 1, 2])

    def test_numbers_stay_with_their_signs(self):
        self.becomes([spread([(1, [2, 3])]), spread([(3, [4, 5])])], [9, 1, 9], [9, 2, 4, 5, 9], [0, 1, 1, 1, 2])

    def test_whats_passed_over(self):
        self.each_passing(lambda passes: spread([(one, [30, 31]) for one in (9, BASE, JOINED, MARK)], passes), 9,
                          lambda one: [one, 1, one], lambda one: [one, 1, one], lambda one: [30, 31, 1, 30, 31])


class Join(ChangeTest):
    def test_signs_are_joined(self):
        self.becomes([join([(1, [2], 3)])], [1, 2, 4, 1, 2], [3, 4, 3], [0, 2, 3])

    def test_many_signs_are_joined(self):
        self.becomes([join([(1, [2, 3, 4, 5, 6, 7, 8], 9)])], [0, 1, 2, 3, 4, 5, 6, 7, 8, 1], [0, 9, 1], [0, 1, 9])

    def test_nothing_fits(self):
        rule = join([(1, [2, 3], 9)])
        for row in ([1, 2], [1, 2, 4], [1, 3, 2], [2, 3], [1], [1, 1, 2], [1, 4, 2, 3]):
            self.becomes([rule], row, row)

    def test_nothing_fits_at_the_first_but_at_the_next(self):
        self.becomes([join([(1, [1, 2], 9)])], [1, 1, 1, 2], [1, 9], [0, 1])

    def test_the_first_that_fits_in_the_files_order(self):
        self.becomes([join([(1, [2], 8), (1, [2, 3], 9)])], [1, 2, 3], [8, 3])
        self.becomes([join([(1, [2, 3], 9), (1, [2], 8)])], [1, 2, 3, 1, 2, 4], [9, 8, 4])
        self.becomes([join([(1, [2], 8), (1, [2], 9)])], [1, 2], [8])
        self.becomes([join([(1, [3], 7), (1, [2, 4], 8), (1, [2], 9), (1, [2, 5], 6)])], [1, 2, 5], [9, 5])
        self.becomes([join([(1, [2, 3, 4], 7), (1, [2], 9), (1, [2, 3], 8)])], [1, 2, 3, 1, 2, 3, 4], [9, 3, 7])

    def test_what_was_joined_isnt_joined_again(self):
        self.becomes([join([(1, [1], 1)])], [1, 1, 1, 1, 1], [1, 1, 1], [0, 2, 4])
        self.becomes([join([(1, [2], 3), (3, [4], 5)])], [1, 2, 4], [3, 4])

    def test_a_later_rule_joins_what_was_joined(self):
        self.becomes([join([(1, [2], 3)]), join([(3, [4], 5)])], [1, 2, 4], [5], [0])

    def test_whats_passed_over_in_between(self):
        self.each_passing(lambda passes: join([(1, [2], 3)], passes), 9,
                          lambda one: [1, one, 2], lambda one: [3, one], lambda one: [1, one, 2])

    def test_whats_passed_over_in_front_and_behind(self):
        self.becomes([join([(1, [2], 3)], 4)], [20, 1, 2, 21], [20, 3, 21], [0, 1, 3])
        self.becomes([join([(1, [2], 3)], 4)], [20, 21, 1, 22, 2, 23], [20, 21, 3, 22, 23], [0, 1, 2, 3, 5])

    def test_what_was_passed_over_stays_behind(self):
        self.becomes([join([(1, [2, 3], 9)], 7)], [1, 20, 10, 2, 15, 3, 21, 4], [9, 20, 10, 15, 21, 4],
                     [0, 1, 2, 4, 6, 7])

    def test_what_is_passed_over_joins_nothing(self):
        self.becomes([join([(20, [21], 9)], 4)], [20, 21], [20, 21])
        self.becomes([join([(1, [20], 9)], 4)], [1, 20], [1, 20])
        self.becomes([join([(1, [20], 9)])], [1, 20], [9])

    def test_a_sign_that_becomes_passed_over(self):
        self.becomes([join([(1, [2], 20), (20, [3], 9)], 4)], [1, 2, 3, 1, 21, 2], [20, 3, 20, 21])

    def test_after_joining_on_with_what_comes_next(self):
        self.becomes([join([(1, [2], 9)], 4)], [1, 20, 2, 1, 21, 2, 1], [9, 20, 9, 21, 1], [0, 1, 3, 4, 6])


class Around(ChangeTest):
    A_TO_Z = exchange([(1, 30), (2, 31), (30, 29)])

    def around(self, contexts, characters, wanted, passes=0):
        # The acts' rule stands in no feature of its own: it's only done where an act says so.
        content = file(32, [piece(0, 31, 0)], CLASSES, None,
                       [around(contexts, passes), self.A_TO_Z, exchange([(3, 20), (20, 27), (30, 28)], 4)], (),
                       [feature(TAG, [0])])
        self.assertEqual(set_signs(content, characters), wanted)
        self.assertEqual(set_numbers(content, characters), list(range(len(characters))))

    def test_one_there(self):
        self.around([context([[1, 2]], acts=[(0, 1)])], [1, 2, 3, 1], [30, 31, 3, 30])

    def test_several_there(self):
        one = context([[1], [2, 3], [2]], acts=[(0, 1), (2, 1)])
        self.around([one], [1, 2, 2], [30, 2, 31])
        self.around([one], [1, 3, 2, 1, 2, 2], [30, 3, 31, 30, 2, 31])
        for row in ([1, 2], [1, 2, 3], [1, 4, 2], [2, 2, 2]):
            self.around([one], row, row)

    def test_behind(self):
        one = context([[1]], (), [[2], [3, 4]], [(0, 1)])
        self.around([one], [1, 2, 3, 1, 2, 4], [30, 2, 3, 30, 2, 4])
        for row in ([1, 2], [1], [1, 2, 5], [1, 3, 2]):
            self.around([one], row, row)

    def test_before_the_nearest_first(self):
        one = context([[1]], [[2], [3, 4]], (), [(0, 1)])
        self.around([one], [3, 2, 1], [3, 2, 30])
        self.around([one], [9, 4, 2, 1, 1], [9, 4, 2, 30, 1])
        for row in ([2, 1], [2, 3, 1], [1], [5, 2, 1]):
            self.around([one], row, row)

    def test_before_and_behind_at_the_most(self):
        one = context([[1]] * 8, [[3], [4], [5], [6], [7], [8], [9], [0]], [[2]] * 8, [(7, 1)])
        before = [0, 9, 8, 7, 6, 5, 4, 3]
        self.around([one], before + [1] * 8 + [2] * 8, before + [1] * 7 + [30] + [2] * 8)
        self.around([one], before[1:] + [1] * 8 + [2] * 8, before[1:] + [1] * 8 + [2] * 8)
        self.around([one], before + [1] * 8 + [2] * 7, before + [1] * 8 + [2] * 7)

    def test_the_first_that_fits(self):
        first = context([[1]], (), [[2]], [(0, 1)])
        second = context([[1, 2]])
        third = context([[1, 2]], acts=[(0, 1)])
        self.around([first, second, third], [1, 2, 1, 1], [30, 2, 1, 1])
        self.around([third, first], [1, 2], [30, 31])
        self.around([context([[9]], acts=[(0, 1)]), third], [1, 9], [30, 9])
        fourth = context([[1], [3]], acts=[(0, 1)])
        self.around([fourth, context([[1]], [[4]]), third], [1, 3, 1, 4, 1], [30, 3, 30, 4, 1])

    def test_the_last_of_64_fits(self):
        others = [context([[1], [k % 8 + 2]]) for k in range(63)]
        self.around(others + [context([[1]], acts=[(0, 1)])], [1, 1, 3], [30, 1, 3])

    def test_on_behind_the_last_of_those_there(self):
        one = context([[1], [1]], acts=[(0, 1)])
        self.around([one], [1, 1, 1, 1, 1], [30, 1, 30, 1, 1])
        self.around([context([[1]], (), [[1]], [(0, 1)])], [1, 1, 1], [30, 30, 1])

    def test_no_acts_is_passed_on_all_the_same(self):
        self.around([context([[1], [2]]), context([[2]], acts=[(0, 1)])], [1, 2, 2], [1, 2, 31])

    def test_before_sees_what_was_changed(self):
        self.around([context([[1]], [[1]], (), [(0, 1)])], [1, 1, 1, 1], [1, 30, 1, 30])
        self.around([context([[1]], [[30]]), context([[1]], acts=[(0, 1)])], [1, 1, 1], [30, 1, 30])

    def test_acts_at_several_places_and_twice_at_one(self):
        self.around([context([[1], [2]], acts=[(1, 1), (0, 1)])], [1, 2], [30, 31])
        self.around([context([[1]], acts=[(0, 1), (0, 1)])], [1], [29])
        self.around([context([[1]], acts=[(0, 1), (0, 2)])], [1], [28])
        self.around([context([[1]], acts=[(0, 2), (0, 1)])], [1], [30])
        self.around([context([[1], [2]], acts=[(0, 1), (1, 1), (0, 2)])], [1, 2], [28, 31])

    def test_an_act_whose_rule_doesnt_have_the_sign(self):
        self.around([context([[4], [1]], acts=[(0, 1), (1, 1)])], [4, 1], [4, 30])

    def test_an_act_asks_only_for_the_first_ones(self):
        # Rule 2 passes over marks where it goes along the row; an act does it at its place.
        self.around([context([[20]], acts=[(0, 2)])], [20], [27])

    def test_whats_passed_over_in_between(self):
        for passes in range(8):
            for one, bit in ((BASE, 1), (JOINED, 2), (MARK, 4), (9, 0)):
                fits = bool(passes & bit)
                entry = context([[1], [2]], [[4], [5]], [[6], [7]], [(1, 1)])
                for row in ([5, one, 4, 1, 2, 6, 7], [5, 4, one, 1, 2, 6, 7], [5, 4, 1, one, 2, 6, 7],
                            [5, 4, 1, 2, one, 6, 7], [5, 4, 1, 2, 6, one, 7]):
                    with self.subTest(passes=passes, row=row):
                        self.around([entry], row, [31 if k == 2 and fits else k for k in row], passes)
                row = [one, 5, 4, 1, 2, 6, 7, one]
                self.around([entry], row, [one, 5, 4, 1, 31, 6, 7, one], passes)

    def test_what_is_passed_over_never_fits(self):
        self.around([context([[20]], acts=[(0, 2)])], [20], [20], 4)
        self.around([context([[1]], [[20]], (), [(0, 1)])], [20, 1], [20, 1], 4)
        self.around([context([[1]], (), [[20]], [(0, 1)])], [1, 20], [1, 20], 4)

    def test_a_sign_that_becomes_passed_over(self):
        # 3 becomes the mark 20: what comes next sees 2 before it, no longer 3 or 20.
        turns = context([[3]], acts=[(0, 2)])
        self.around([turns, context([[1]], [[2]], (), [(0, 1)])], [2, 3, 1], [2, 20, 30], 4)
        self.around([turns, context([[1]], [[20]], (), [(0, 1)])], [2, 3, 1], [2, 20, 1], 4)
        self.around([turns, context([[1]], [[20]], (), [(0, 1)])], [2, 3, 1], [2, 20, 30], 3)

    def test_an_act_behind_one_that_makes_its_sign_passed_over(self):
        self.around([context([[3], [1]], acts=[(0, 2), (1, 1), (0, 2)])], [3, 21, 1], [27, 21, 30], 4)

    def test_on_behind_what_was_passed_over(self):
        self.around([context([[1], [1]], acts=[(1, 1)])], [1, 20, 1, 21, 1, 1], [1, 20, 30, 21, 1, 30], 4)


class Together(ChangeTest):
    def test_each_rule_goes_along_the_whole_row(self):
        self.becomes([exchange([(1, 2)]), exchange([(2, 3)]), exchange([(1, 9), (3, 4)])], [1, 2, 3, 1], [4, 4, 4, 4])

    def test_spread_then_joined(self):
        self.becomes([spread([(1, [2, 3])]), join([(3, [2], 4)])], [1, 1, 1], [2, 4, 4, 3], [0, 0, 1, 2])

    def test_no_signs(self):
        for one in (exchange([(0, 1)]), spread([(0, [1])]), join([(0, [1], 2)]), around([context([[0]])])):
            self.becomes([one], [], [])
