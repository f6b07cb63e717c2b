"""Promise 5 once more: files and characters drawn by chance (the same each time), against a plain model."""

import random
import unittest

from tests import files
from tests.files import opened, put, talk
from tests.model import Model

COUNT = 10
FILES = 400
ROWS = 6


def some_signs(chance, fewest, most):
    return [chance.randrange(COUNT) for k in range(chance.randint(fewest, most))]


def rising(chance, fewest, most):
    return sorted(chance.sample(range(COUNT), chance.randint(fewest, most)))


def draw_context(chance, exchanges):
    there = [rising(chance, 1, 6) for k in range(chance.randint(1, 3))]
    acts = [(chance.randrange(len(there)), chance.choice(exchanges)) for k in range(chance.randint(0, 4)) if exchanges]
    return {"there": there, "before": [rising(chance, 1, 7) for k in range(chance.choice((0, 0, 1, 2)))],
            "behind": [rising(chance, 1, 7) for k in range(chance.choice((0, 0, 1, 2)))], "acts": acts}


def draw_change(chance, kind, exchanges):
    if kind == 1:
        return [(one, chance.randrange(COUNT)) for one in rising(chance, 1, 6)]
    if kind == 2:
        return [(one, some_signs(chance, 1, 4)) for one in rising(chance, 1, 3)]
    if kind == 3:
        firsts = sorted(some_signs(chance, 1, 12))
        return [(one, some_signs(chance, 1, 3), chance.randrange(COUNT)) for one in firsts]
    return [draw_context(chance, exchanges) for k in range(chance.randint(1, 4))]


def far(chance):
    return chance.choice((0, chance.randint(-9, 9), chance.randint(-32768, 32767)))


def draw_anchors(chance, keys):
    return [key + (far(chance), far(chance)) for key in keys]


def draw_place(chance, kind):
    if kind == 1:
        return [(one, far(chance), far(chance), far(chance)) for one in rising(chance, 1, 6)]
    if kind == 2:
        keys = sorted({tuple(some_signs(chance, 2, 2)) for k in range(20)})
        return [key + (far(chance),) for key in keys]
    marks = draw_anchors(chance, [(one, chance.randrange(2)) for one in rising(chance, 2, 8)])
    bases = draw_anchors(chance, sorted({(chance.randrange(COUNT), chance.randrange(2)) for k in range(14)}))
    return (marks, bases)


def written_change(kind, passes, entries):
    if kind == 4:
        return files.around([files.context(**entry) for entry in entries], passes)
    return {1: files.exchange, 2: files.spread, 3: files.join}[kind](entries, passes)


def written_place(kind, passes, entries):
    if kind >= 3:
        return files.anchors(kind, *entries, passes)
    return {1: files.move, 2: files.pairs}[kind](entries, passes)


def draw_model(chance):
    kinds = [chance.randint(1, 4) for k in range(chance.randint(0, 7))]
    exchanges = [number for number, kind in enumerate(kinds) if kind == 1]
    changes = [(kind, chance.randrange(8), draw_change(chance, kind, exchanges)) for kind in kinds]
    kinds = [chance.randint(1, 4) for k in range(chance.randint(0, 5))]
    places = [(kind, chance.randrange(8), draw_place(chance, kind)) for kind in kinds]
    features = {}
    for tag in sorted(chance.sample(range(6), chance.randint(1, 4))):
        features[tag] = tuple([number for number in range(len(rules)) if chance.random() < 0.6]
                              for rules in (changes, places))
    classes = [chance.randrange(4) for one in range(COUNT)]
    widths = [chance.choice((0, chance.randrange(600), 65535)) for one in range(COUNT)]
    pieces = [(3, 3 + COUNT // 2 - 1, 0), (20, 20 + COUNT - COUNT // 2 - 1, COUNT // 2)]
    return Model(classes, widths, pieces, changes, places, features)


def written(model):
    features = [files.feature(tag, *numbers) for tag, numbers in model.features.items()]
    return files.file(COUNT, [files.piece(*one) for one in model.pieces], model.classes, model.widths,
                      [written_change(*one) for one in model.changes], [written_place(*one) for one in model.places],
                      features)


class AgainstModel(unittest.TestCase):
    def test_rows_are_the_same(self):
        for seed in range(FILES):
            chance = random.Random(seed)
            model = draw_model(chance)
            asked = []
            for k in range(ROWS):
                choices = (3, 4, 5, 6, 7, 20, 21, 22, 23, 24, 2 * k)
                characters = [chance.choice(choices) for j in range(chance.randint(0, 25))]
                tags = [chance.randrange(6) for j in range(chance.randint(0, 8))]
                asked.append((chance.choice((4096, 4096, 25)), characters, tags))
            told = talk(opened(written(model)), *[put(characters, tags, room) for room, characters, tags in asked])
            with self.subTest(seed=seed):
                self.assertEqual(told[0], [COUNT])
                self.assertEqual(told[1:], [model.set(*one) for one in asked])
