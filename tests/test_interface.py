"""The interface: what's handed in stays as it is, nothing is kept, long lists are gone through."""

import contextlib
import io
import time
import unittest

import signrow.setter
from signrow.setter import answers
from tests.files import (TAG, anchors, around, context, exchange, feature, file, has, join, move, opened, pairs, piece,
                         put, ruled, sign, split, spread, start)

# Generous: it's only to tell loops that grow out of hand from such as don't.
SECONDS = 60


def flat(*calls):
    return [number for call in calls for number in call]


def rich_calls():
    content = ruled([around([context([[1]], acts=[(0, 1)])]), exchange([(1, 2)]), spread([(3, [4, 5])]),
                     join([(2, [4], 6)])], [move([(6, -1, 2, 3)]), pairs([(6, 5, -7)])])
    return flat(start(), opened(content), put([1, 3, 2]), opened(content[:-1]), has(TAG), sign(7), put([1], room=0),
                put([], [], -5), start(), sign(7), has(TAG), put([]))


class NothingKept(unittest.TestCase):
    def test_the_list_handed_in_is_the_same_afterwards(self):
        calls = rich_calls()
        copy = list(calls)
        answers(calls)
        self.assertEqual(calls, copy)
        self.assertTrue(all(type(number) is int for number in calls))

    def test_the_list_handed_in_is_never_changed(self):
        class Watched(list):
            def refuse(self, *given):
                raise AssertionError("the list handed in is changed")
            __setitem__ = __delitem__ = __iadd__ = __imul__ = refuse
            append = extend = insert = pop = remove = clear = sort = reverse = refuse
        self.assertEqual(answers(Watched(rich_calls())), answers(rich_calls()))

    def test_a_list_of_whole_numbers_is_given_back(self):
        given = answers(rich_calls())
        self.assertIs(type(given), list)
        self.assertTrue(all(type(number) is int for number in given))

    def test_two_runs_answer_the_same(self):
        calls = rich_calls()
        first = answers(calls)
        self.assertEqual(answers(calls), first)
        self.assertEqual(answers(list(calls)), first)

    def test_a_run_knows_nothing_of_the_one_before(self):
        answers(flat(start(), opened(ruled())))
        self.assertEqual(answers(flat(start(), sign(0), has(TAG), put([]))), [1, 0, 1, -4, 1, -4, 1, -4])

    def test_what_is_given_back_is_new_each_time(self):
        calls = rich_calls()
        first = answers(calls)
        copy = list(first)
        second = answers(calls)
        second.clear()
        self.assertEqual(first, copy)

    def test_nothing_is_printed(self):
        with contextlib.redirect_stdout(io.StringIO()) as out, contextlib.redirect_stderr(io.StringIO()) as err:
            answers(rich_calls())
        self.assertEqual((out.getvalue(), err.getvalue()), ("", ""))

    def test_the_name(self):
        self.assertIs(signrow.setter.answers, answers)


class Form(unittest.TestCase):
    def test_each_answer_has_its_length_ahead(self):
        content = file(3, [piece(65, 66, 1)], widths=[7, 8, 9], features=[feature(5)])
        given = answers(flat(start(), opened(content), sign(66), has(5), put([65, 1], [5]), put([65], [5], 0),
                             opened([1]), put([], [], -1)))
        self.assertEqual(given, [1, 0, 1, 3, 1, 2, 1, 1, 11, 2, 1, 0, 8, 0, 0, 0, 1, 7, 0, 0, 1, -6, 1, -2, 1, -1])

    def test_several_files(self):
        first = file(3, [piece(65, 66, 1)], features=[feature(5)])
        second = file(9, [piece(65, 66, 7)], features=[feature(6)])
        given = answers(flat(start(), opened(first), sign(65), has(5), opened(second), sign(65), has(5), has(6),
                             opened(first), sign(65), has(6), start(), opened(second), put([66], [5, 6])))
        self.assertEqual(split(given), [[0], [3], [1], [1], [9], [7], [0], [1], [3], [1], [0], [0], [9],
                                        [1, 8, 0, 0, 0, 0]])

    def test_numbers_that_look_like_calls(self):
        given = answers(flat(start(), sign(1), has(2), opened([1, 2, 3, 4, 5]), opened(file(1)), sign(5), has(4),
                             put([1, 2, 3, 4, 5], [1, 2, 3, 4, 5]), sign(0)))
        self.assertEqual([len(one) for one in split(given)], [1, 1, 1, 1, 1, 1, 1, 26, 1])


class Long(unittest.TestCase):
    def timed(self, calls):
        self.assertLessEqual(len(calls), 30000)
        began = time.perf_counter()
        given = split(answers(calls))
        self.assertLess(time.perf_counter() - began, SECONDS)
        return given

    def test_300_calls(self):
        given = self.timed(flat(start(), opened(ruled()), *[sign(k % 40) for k in range(298)]))
        self.assertEqual([one[0] for one in given[2:]], [k % 40 if k % 40 < 32 else 0 for k in range(298)])

    def test_a_file_of_nearly_30000_bytes(self):
        sets = [list(range(1024))] * 8
        content = ruled([around([context(sets[:5], sets[:4], sets[:4])])], count=1024)
        given = self.timed(flat(start(), opened(content), put(range(128))))
        self.assertEqual(given[1], [1024])
        self.assertEqual(given[2][0], 128)
        self.assertEqual(self.timed(flat(start(), opened([0x49, 0x70] + [0] * 29900)))[1], [-2])

    def test_many_calls_with_many_characters(self):
        content = ruled([exchange([(1, 2)]), join([(2, [2], 3)])], [pairs([(3, 3, 5)])])
        given = self.timed(flat(start(), opened(content), *[put([1] * 1024)] * 28))
        self.assertEqual([one[0] for one in given[2:]], [512] * 28)

    def test_long_rows_under_all_rules(self):
        grow = [spread([(1, [1] * 8)])] * 4
        other = [join([(1, [1, 1, 1, 1, 1, 1, 2], 3)]), around([context([[1]] * 8, [[1]] * 8, [[1]] * 7 + [[2]])])]
        ends = [(1, 0, 1, 1)]
        places = [pairs([(1, 1, 1)]), anchors(3, ends, ends), anchors(4, ends, ends), move([(1, 1, 1, 1)])]
        content = ruled(grow + other * 30, places * 16, [0, 3, 0, 0])
        given = self.timed(flat(start(), opened(content), *[put([1])] * 3))
        self.assertEqual([one[0] for one in given[2:]], [4096] * 3)

    def test_many_entries_with_the_same_first_sign(self):
        grow = [spread([(1, [1] * 8)])] * 4
        entries = [(1, [k // 32, k % 32], 0) for k in range(1024) if k != 33]
        content = ruled(grow + [join(entries[:1000])] * 2)
        given = self.timed(flat(start(), opened(content), *[put([1])] * 10))
        self.assertEqual([one[0] for one in given[2:]], [4096] * 10)

    def test_much_is_passed_over(self):
        grow = [spread([(1, [1] * 8)])] * 3
        rules = [join([(2, [3], 4)], 4), around([context([[2], [3]])], 4)] * 20
        content = ruled(grow + rules, [pairs([(2, 3, 1)], 4), anchors(3, [(1, 0, 0, 0)], [(2, 0, 0, 0)])] * 20,
                        [0, 3, 0, 0, 0])
        given = self.timed(flat(start(), opened(content), *[put([2] * 500 + [1] * 5 + [2] * 500)] * 5))
        self.assertEqual([one[0] for one in given[2:]], [3560] * 5)
