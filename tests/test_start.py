"""Promise 1: sg_start."""

import unittest

from signrow.setter import answers
from tests.files import file, has, opened, piece, put, sign, start, talk


class Start(unittest.TestCase):
    def test_answers_0(self):
        self.assertEqual(answers([1]), [1, 0])

    def test_answers_0_each_time(self):
        self.assertEqual(answers([1, 1, 1]), [1, 0, 1, 0, 1, 0])

    def test_there_is_no_file(self):
        self.assertEqual(talk(sign(0), has(0), put([])), [[-4], [-4], [-4]])

    def test_there_is_no_file_any_more(self):
        content = file(3, [piece(65, 66, 1)])
        told = talk(opened(content), sign(65), start(), sign(65), has(0), put([65]))
        self.assertEqual(told, [[3], [1], [0], [-4], [-4], [-4]])

    def test_a_file_after_starting_again(self):
        content = file(3, [piece(65, 66, 1)])
        told = talk(opened(content), start(), opened(content), sign(66))
        self.assertEqual(told, [[3], [0], [3], [2]])

    def test_a_wrong_file_is_no_file(self):
        self.assertEqual(talk(opened([]), sign(0), has(0), put([])), [[-2], [-4], [-4], [-4]])

    def test_starting_again_after_a_wrong_file(self):
        content = file(3)
        told = talk(opened(content), opened([1]), start(), opened([1]), sign(0))
        self.assertEqual(told, [[3], [-2], [0], [-2], [-4]])
