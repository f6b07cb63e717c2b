"""Promise 2: sg_open."""

import unittest

from tests.files import (anchors, around, context, exchange, feature, file, has, join, many, move, opened, pairs,
                         piece, rule, ruled, s16s, sign, signs, spread, start, talk, u16, u16s, u32)

HELD = file(7, [piece(65, 66, 5)], features=[feature(99)])


def whole_file():
    """A right file with each part and each kind of rule in it."""
    changes = [
        around([context([[1], [2, 3]], [[4]], [[5, 6]], [(0, 1), (1, 4)]), context([[0]])], 7),
        exchange([(1, 2), (3, 4)], 1),
        spread([(1, [2, 3]), (4, [5])], 2),
        join([(1, [2], 3), (1, [2, 4], 5), (6, [7], 0)], 4),
        exchange([(0, 7)]),
    ]
    places = [
        move([(1, -1, 2, -3), (2, 32767, -32768, 0)], 3),
        pairs([(1, 1, -5), (1, 2, 6), (2, 0, 7)], 5),
        anchors(3, [(4, 0, 1, 2), (5, 65535, -1, -2)], [(1, 0, 3, 4), (1, 65535, 5, 6), (2, 0, 7, 8)], 6),
        anchors(4, [(4, 1, 0, 0)], [(5, 1, 9, 9)]),
    ]
    features = [feature(0, [], []), feature(5, [0, 1, 2, 3, 4], [0, 1, 2, 3]), feature(2 ** 32 - 1, [2], [3])]
    pieces = [piece(0, 2, 1), piece(3, 3, 0), piece(0x10FFFE, 0x10FFFF, 6)]
    return file(8, pieces, [0, 1, 2, 3, 3, 2, 1, 0], [0, 1, 65535, 3, 4, 5, 6, 7], changes, places, features)


class FileTest(unittest.TestCase):
    def right(self, content, count):
        self.assertEqual(talk(opened(content)), [[count]])

    def wrong(self, content):
        self.assertEqual(talk(opened(content)), [[-2]])
        self.assertEqual(talk(opened(HELD), opened(content), sign(66), has(99)), [[7], [-2], [6], [1]])

    def right_changes(self, *changes):
        self.right(ruled(changes, count=1100), 1100)

    def wrong_changes(self, *changes):
        self.wrong(ruled(changes, count=1100))

    def right_places(self, *places):
        self.right(ruled((), places, count=1100), 1100)

    def wrong_places(self, *places):
        self.wrong(ruled((), places, count=1100))


class Whole(FileTest):
    def test_a_right_file_answers_its_number_of_signs(self):
        self.right(whole_file(), 8)

    def test_the_least_file(self):
        self.right([0x49, 0x70, 0, 1, 0, 0, 0, 0, 0, 0, 0, 0, 0, 0, 0], 1)

    def test_the_new_file_is_the_one_now(self):
        told = talk(opened(HELD), opened(whole_file()), sign(65), sign(1), has(99), has(5))
        self.assertEqual(told, [[7], [8], [0], [2], [0], [1]])

    def test_no_bytes(self):
        self.wrong([])

    def test_each_file_that_ends_too_early(self):
        content = whole_file()
        for length in range(len(content)):
            with self.subTest(length=length):
                self.wrong(content[:length])

    def test_bytes_behind_the_end(self):
        self.wrong(whole_file() + [0])
        self.wrong(whole_file() + [0, 0])
        self.wrong(file(1) + [255])

    def test_the_first_two_bytes(self):
        content = file(1)
        for first, second in ((0x48, 0x70), (0x4A, 0x70), (0x49, 0x6F), (0x49, 0x71), (0x70, 0x49), (0, 0)):
            with self.subTest(first=first, second=second):
                self.wrong([first, second] + content[2:])

    def test_the_number_of_signs(self):
        self.wrong(file(0))
        self.right(file(1), 1)
        self.right(file(2), 2)
        self.right(file(4095), 4095)
        self.right(file(4096), 4096)
        self.wrong(file(4097))

    def test_a_high_byte_comes_first(self):
        self.right(file(258, [piece(0x10203, 0x10203, 257)]), 258)
        told = talk(opened(file(258, [piece(0x10203, 0x10203, 257)])), sign(0x10203), sign(0x30201))
        self.assertEqual(told, [[258], [257], [0]])


class Pieces(FileTest):
    def test_how_many(self):
        apart = [piece(2 * k, 2 * k, 0) for k in range(1025)]
        self.right(file(1, apart[:0]), 1)
        self.right(file(1, apart[:1]), 1)
        self.right(file(1, apart[:1024]), 1)
        self.wrong(file(1, apart))

    def test_the_last_isnt_before_the_first(self):
        self.right(file(9, [piece(5, 5, 0)]), 9)
        self.wrong(file(9, [piece(5, 4, 0)]))
        self.wrong(file(9, [piece(5, 4, 1)]))
        self.wrong(file(9, [piece(5, 0, 8)]))

    def test_the_last_is_10ffffh_at_most(self):
        self.right(file(9, [piece(0x10FFFF, 0x10FFFF, 0)]), 9)
        self.wrong(file(9, [piece(0x10FFFF, 0x110000, 0)]))
        self.wrong(file(9, [piece(0x110000, 0x110000, 0)]))
        self.wrong(file(9, [piece(0xFFFFFFFF, 0xFFFFFFFF, 0)]))

    def test_all_signs_are_below_g(self):
        self.right(file(9, [piece(5, 5, 8)]), 9)
        self.wrong(file(9, [piece(5, 5, 9)]))
        self.right(file(9, [piece(5, 7, 6)]), 9)
        self.wrong(file(9, [piece(5, 8, 6)]))
        self.right(file(9, [piece(0, 8, 0)]), 9)
        self.wrong(file(9, [piece(0, 9, 0)]))
        self.wrong(file(9, [piece(0, 0x10FFFF, 0)]))

    def test_they_rise_and_share_nothing(self):
        self.right(file(9, [piece(1, 3, 0), piece(4, 6, 0)]), 9)
        self.wrong(file(9, [piece(1, 3, 0), piece(3, 6, 0)]))
        self.wrong(file(9, [piece(1, 6, 0), piece(2, 3, 0)]))
        self.wrong(file(9, [piece(1, 3, 0), piece(1, 3, 0)]))
        self.wrong(file(9, [piece(4, 6, 0), piece(1, 3, 0)]))
        self.wrong(file(9, [piece(1, 1, 0), piece(5, 5, 0), piece(3, 3, 0)]))

    def test_one_that_begins_at_0(self):
        self.right(file(9, [piece(0, 0, 0), piece(1, 1, 0)]), 9)
        self.wrong(file(9, [piece(0, 0, 0), piece(0, 0, 0)]))


class Signs(FileTest):
    def test_classes(self):
        self.right(file(4, classes=[0, 1, 2, 3]), 4)
        for place in range(4):
            for wrong in (4, 5, 255):
                classes = [0, 1, 2, 3]
                classes[place] = wrong
                with self.subTest(place=place, wrong=wrong):
                    self.wrong(file(4, classes=classes))

    def test_widths_are_any_numbers(self):
        self.right(file(3, widths=[0, 32768, 65535]), 3)


class RulesThatChange(FileTest):
    def test_how_many(self):
        one = exchange([(1, 2)])
        self.right_changes()
        self.right_changes(*[one] * 64)
        self.wrong(file(9, changes=[one] * 65))

    def test_kinds(self):
        bodies = {1: exchange([(1, 2)]), 2: spread([(1, [2])]), 3: join([(1, [2], 3)]), 4: around([context([[1]])])}
        for kind, body in bodies.items():
            self.right_changes(body)
            for wrong in (0, 5, 257, 65535):
                self.wrong_changes(u16(wrong) + body[2:])

    def test_whats_passed_over(self):
        for passes in range(8):
            self.right_changes(exchange([(1, 2)], passes), spread([(1, [2])], passes), join([(1, [2], 3)], passes),
                               around([context([[1]])], passes))
        for passes in (8, 256, 65535):
            self.wrong_changes(exchange([(1, 2)], passes))
            self.wrong_changes(spread([(1, [2])], passes))
            self.wrong_changes(join([(1, [2], 3)], passes))
            self.wrong_changes(around([context([[1]])], passes))

    def test_kind_1_how_many(self):
        self.wrong_changes(exchange([]))
        self.right_changes(exchange([(k, 0) for k in range(1024)]))
        self.wrong_changes(exchange([(k, 0) for k in range(1025)]))

    def test_kind_1_signs(self):
        self.right_changes(exchange([(1099, 1099)]))
        self.wrong_changes(exchange([(1100, 0)]))
        self.wrong_changes(exchange([(0, 1100)]))
        self.wrong_changes(exchange([(0, 1), (1, 65535)]))

    def test_kind_1_rises(self):
        self.right_changes(exchange([(1, 9), (2, 8), (3, 8)]))
        self.wrong_changes(exchange([(1, 2), (1, 3)]))
        self.wrong_changes(exchange([(2, 2), (1, 3)]))
        self.wrong_changes(exchange([(1, 2), (4, 3), (2, 5)]))

    def test_kind_2_how_many(self):
        self.wrong_changes(spread([]))
        self.right_changes(spread([(k, [0]) for k in range(1024)]))
        self.wrong_changes(spread([(k, [0]) for k in range(1025)]))

    def test_kind_2_how_many_for_one(self):
        self.wrong_changes(spread([(1, [])]))
        self.right_changes(spread([(1, [2])]))
        self.right_changes(spread([(1, [2] * 8)]))
        self.wrong_changes(spread([(1, [2] * 9)]))
        self.wrong_changes(spread([(1, [2]), (2, [])]))

    def test_kind_2_signs(self):
        self.right_changes(spread([(1099, [1099, 0])]))
        self.wrong_changes(spread([(1100, [0])]))
        self.wrong_changes(spread([(0, [1100])]))
        self.wrong_changes(spread([(0, [1, 2, 1100])]))

    def test_kind_2_rises(self):
        self.right_changes(spread([(1, [9]), (2, [8]), (5, [8])]))
        self.wrong_changes(spread([(1, [2]), (1, [2])]))
        self.wrong_changes(spread([(2, [2]), (1, [2])]))

    def test_kind_3_how_many(self):
        self.wrong_changes(join([]))
        self.right_changes(join([(1, [2], 3)] * 1024))
        self.wrong_changes(join([(1, [2], 3)] * 1025))

    def test_kind_3_how_many_follow(self):
        self.wrong_changes(join([(1, [], 3)]))
        self.right_changes(join([(1, [2] * 7, 3)]))
        self.wrong_changes(join([(1, [2] * 8, 3)]))

    def test_kind_3_signs(self):
        self.right_changes(join([(1099, [1099], 1099)]))
        self.wrong_changes(join([(1100, [1], 1)]))
        self.wrong_changes(join([(1, [1100], 1)]))
        self.wrong_changes(join([(1, [2, 3, 1100], 1)]))
        self.wrong_changes(join([(1, [1], 1100)]))

    def test_kind_3_doesnt_fall(self):
        self.right_changes(join([(1, [9], 3), (1, [8], 4), (1, [9], 5), (2, [1], 0)]))
        self.wrong_changes(join([(2, [1], 3), (1, [2], 3)]))
        self.wrong_changes(join([(1, [1], 3), (3, [2], 3), (2, [2], 3)]))


class RulesThatLookAround(FileTest):
    def test_how_many(self):
        one = context([[1]])
        self.wrong_changes(around([]))
        self.right_changes(around([one] * 64))
        self.wrong_changes(around([one] * 65))

    def test_how_many_sets(self):
        sets = [[1]] * 9
        self.wrong_changes(around([context([])]))
        self.right_changes(around([context(sets[:8], sets[:8], sets[:8])]))
        self.wrong_changes(around([context(sets)]))
        self.wrong_changes(around([context([[1]], sets)]))
        self.wrong_changes(around([context([[1]], (), sets)]))

    def test_how_many_in_a_set(self):
        for count, right in ((0, False), (1, True), (1024, True), (1025, False)):
            one = list(range(count))
            check = self.right_changes if right else self.wrong_changes
            check(around([context([one])]))
            check(around([context([[1], one])]))
            check(around([context([[1]], [one])]))
            check(around([context([[1]], (), [one])]))

    def test_sets_rise_and_hold_signs(self):
        self.right_changes(around([context([[0, 1099]], [[3, 5]], [[7, 8]])]))
        for wrong in ([1, 1], [2, 1], [1, 3, 2], [1100], [1, 1100]):
            self.wrong_changes(around([context([wrong])]))
            self.wrong_changes(around([context([[1], wrong])]))
            self.wrong_changes(around([context([[1]], [wrong])]))
            self.wrong_changes(around([context([[1]], (), [[1], wrong])]))

    def test_how_many_acts(self):
        one = exchange([(1, 2)])
        self.right_changes(one, around([context([[1]], acts=[(0, 0)] * 8)]))
        self.wrong_changes(one, around([context([[1]], acts=[(0, 0)] * 9)]))

    def test_an_acts_place(self):
        one = exchange([(1, 2)])
        self.right_changes(one, around([context([[1], [2], [3]], acts=[(2, 0), (0, 0)])]))
        self.wrong_changes(one, around([context([[1], [2], [3]], acts=[(3, 0)])]))
        self.wrong_changes(one, around([context([[1]], [[1]], [[1]], acts=[(1, 0)])]))
        self.wrong_changes(one, around([context([[1]], acts=[(65535, 0)])]))

    def test_an_acts_rule(self):
        one = exchange([(1, 2)])
        acting = [around([context([[1]], acts=[(0, number)])]) for number in range(4)]
        self.right_changes(one, acting[0])
        self.right_changes(acting[1], one)
        self.right_changes(acting[2], acting[2], one)
        self.wrong_changes(one, acting[2])
        self.wrong_changes(acting[1])
        self.wrong_changes(acting[0])
        self.wrong_changes(one, acting[1])
        self.wrong_changes(one, around([context([[1]], acts=[(0, 0), (0, 65535)])]))

    def test_an_acts_rule_is_of_kind_1(self):
        others = (spread([(1, [2])]), join([(1, [2], 3)]), around([context([[1]])]))
        for other in others:
            self.wrong_changes(other, around([context([[1]], acts=[(0, 0)])]))
            self.wrong_changes(around([context([[1]], acts=[(0, 1)])]), other)
            second = [context([[1]]), context([[1]], acts=[(0, 2)])]
            self.wrong_changes(around(second), exchange([(1, 2)]), other)

    def test_an_acts_rule_is_among_those_that_change(self):
        self.wrong(ruled([around([context([[1]], acts=[(0, 1)])])], [move([(1, 0, 0, 0)])] * 2))


class RulesThatPlace(FileTest):
    def test_how_many(self):
        one = move([(1, 2, 3, 4)])
        self.right_places(*[one] * 64)
        self.wrong(file(9, places=[one] * 65))

    def test_kinds(self):
        ends = [(1, 0, 0, 0)]
        bodies = {1: move([(1, 2, 3, 4)]), 2: pairs([(1, 2, 3)]), 3: anchors(3, ends, ends), 4: anchors(4, ends, ends)}
        for kind, body in bodies.items():
            self.right_places(body)
            for wrong in (0, 5, 257, 65535):
                self.wrong_places(u16(wrong) + body[2:])

    def test_whats_passed_over(self):
        ends = [(1, 0, 0, 0)]
        for passes in range(8):
            self.right_places(move([(1, 2, 3, 4)], passes), pairs([(1, 2, 3)], passes),
                              anchors(3, ends, ends, passes), anchors(4, ends, ends, passes))
        for passes in (8, 256, 65535):
            self.wrong_places(move([(1, 2, 3, 4)], passes))
            self.wrong_places(pairs([(1, 2, 3)], passes))
            self.wrong_places(anchors(3, ends, ends, passes))
            self.wrong_places(anchors(4, ends, ends, passes))

    def test_kind_1_how_many(self):
        self.wrong_places(move([]))
        self.right_places(move([(k, 0, 0, 0) for k in range(1024)]))
        self.wrong_places(move([(k, 0, 0, 0) for k in range(1025)]))

    def test_kind_1_signs_rise(self):
        self.right_places(move([(0, 9, 9, 9), (1099, 1, 1, 1)]))
        self.wrong_places(move([(1100, 0, 0, 0)]))
        self.wrong_places(move([(1, 0, 0, 0), (1, 1, 1, 1)]))
        self.wrong_places(move([(2, 0, 0, 0), (1, 1, 1, 1)]))

    def test_kind_2_how_many(self):
        self.wrong_places(pairs([]))
        self.right_places(pairs([(k, 0, 0) for k in range(1024)]))
        self.right_places(pairs([(0, k, 0) for k in range(1024)]))
        self.wrong_places(pairs([(k, 0, 0) for k in range(1025)]))
        self.wrong_places(pairs([(0, k, 0) for k in range(1025)]))

    def test_kind_2_rises_by_the_first_then_the_second(self):
        self.right_places(pairs([(1, 5, 9), (1, 6, 8), (2, 0, 7), (1099, 1099, 0)]))
        self.wrong_places(pairs([(1, 5, 9), (1, 5, 10)]))
        self.wrong_places(pairs([(1, 5, 9), (1, 4, 9)]))
        self.wrong_places(pairs([(2, 5, 9), (1, 6, 9)]))
        self.wrong_places(pairs([(1, 1100, 9)]))
        self.wrong_places(pairs([(1100, 1, 9)]))

    def test_kinds_3_and_4_how_many(self):
        ends = [(k, 0, 0, 0) for k in range(1025)]
        classes = [(0, k, 0, 0) for k in range(1025)]
        for kind in (3, 4):
            self.wrong_places(anchors(kind, [], ends[:1]))
            self.wrong_places(anchors(kind, ends[:1], []))
            self.right_places(anchors(kind, ends[:1024], ends[:1024]))
            self.right_places(anchors(kind, ends[:1], classes[:1024]))
            self.wrong_places(anchors(kind, ends, ends[:1]))
            self.wrong_places(anchors(kind, ends[:1], ends))
            self.wrong_places(anchors(kind, ends[:1], classes))

    def test_kinds_3_and_4_marks_rise_by_their_signs(self):
        base = [(0, 0, 0, 0)]
        for kind in (3, 4):
            self.right_places(anchors(kind, [(1, 9, 0, 0), (2, 8, 0, 0), (1099, 8, 0, 0)], base))
            self.wrong_places(anchors(kind, [(1, 0, 0, 0), (1, 1, 0, 0)], base))
            self.wrong_places(anchors(kind, [(1, 0, 0, 0), (1, 0, 0, 0)], base))
            self.wrong_places(anchors(kind, [(2, 0, 0, 0), (1, 1, 0, 0)], base))
            self.wrong_places(anchors(kind, [(1100, 0, 0, 0)], base))

    def test_kinds_3_and_4_bases_rise_by_their_signs_then_classes(self):
        mark = [(0, 0, 0, 0)]
        for kind in (3, 4):
            self.right_places(anchors(kind, mark, [(1, 0, 9, 9), (1, 1, 8, 8), (2, 0, 7, 7), (1099, 65535, 0, 0)]))
            self.wrong_places(anchors(kind, mark, [(1, 0, 0, 0), (1, 0, 1, 1)]))
            self.wrong_places(anchors(kind, mark, [(1, 1, 0, 0), (1, 0, 1, 1)]))
            self.wrong_places(anchors(kind, mark, [(2, 0, 0, 0), (1, 1, 1, 1)]))
            self.wrong_places(anchors(kind, mark, [(1100, 0, 0, 0)]))

    def test_an_anchors_class_is_any_number(self):
        ends = [(1, 4, 0, 0), (2, 65535, 0, 0)]
        self.right_places(anchors(3, ends, ends), anchors(4, ends, ends))


class Features(FileTest):
    CHANGES = [exchange([(1, 2)])] * 64
    PLACES = [move([(1, 2, 3, 4)])] * 64

    def featured(self, *features, changes=64, places=64):
        return file(9, changes=self.CHANGES[:changes], places=self.PLACES[:places], features=features)

    def test_how_many(self):
        self.right(self.featured(), 9)
        self.right(self.featured(*[feature(k) for k in range(64)]), 9)
        self.wrong(self.featured(*[feature(k) for k in range(65)]))

    def test_how_many_rules(self):
        self.right(self.featured(feature(1, range(64), range(64))), 9)
        self.wrong(self.featured(feature(1, range(65), range(64))))
        self.wrong(self.featured(feature(1, range(64), range(65))))
        self.wrong(self.featured(u32(1) + u16(65) + u16s(*range(65)) + u16(0)))

    def test_rules_that_there_are(self):
        self.right(self.featured(feature(1, [2], [3]), changes=3, places=4), 9)
        self.wrong(self.featured(feature(1, [3], [3]), changes=3, places=4))
        self.wrong(self.featured(feature(1, [2], [4]), changes=3, places=4))
        self.wrong(self.featured(feature(1, [0], []), changes=0, places=4))
        self.wrong(self.featured(feature(1, [], [0]), changes=3, places=0))
        self.wrong(self.featured(feature(1, [65535], [])))

    def test_rules_rise(self):
        self.right(self.featured(feature(1, [0, 5, 63], [2, 3])), 9)
        for wrong in ([1, 1], [2, 1], [0, 3, 2]):
            self.wrong(self.featured(feature(1, wrong, [])))
            self.wrong(self.featured(feature(1, [], wrong)))

    def test_tags_rise(self):
        self.right(self.featured(feature(0), feature(1), feature(2 ** 32 - 1)), 9)
        self.wrong(self.featured(feature(1), feature(1)))
        self.wrong(self.featured(feature(2), feature(1)))
        self.wrong(self.featured(feature(1), feature(0x10000), feature(0xFFFF)))


class Held(unittest.TestCase):
    def test_the_file_that_there_was_stays_whole(self):
        first = ruled([exchange([(1, 2)])])
        second = file(9, [piece(0, 8, 0)], features=[feature(5)])
        calls = [5, 9, 1, 1, 1, 0x74657374]
        told = talk(opened(first), opened(second + [0]), calls, opened(second), calls)
        self.assertEqual(told, [[32], [-2], [1, 2, 0, 0, 0, 0], [9], [1, 1, 0, 0, 0, 0]])

    def test_several_wrong_ones_behind_one_another(self):
        told = talk(opened(HELD), opened([]), opened([0x49]), opened(file(0)), sign(65), start(), sign(65))
        self.assertEqual(told, [[7], [-2], [-2], [-2], [5], [0], [-4]])

    def test_parts_of_the_file_maker(self):
        self.assertEqual(many([[1], [2, 3]]), [0, 2, 1, 2, 3])
        self.assertEqual(signs([258]), [0, 1, 1, 2])
        self.assertEqual(s16s(-1, 1), [255, 255, 0, 1])
        self.assertEqual(rule(1, 2, [3], [4]), [0, 1, 0, 2, 3, 4])
        self.assertEqual(u32(0x01020304), [1, 2, 3, 4])
