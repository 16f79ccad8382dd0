"""Many books at random, each held against a plain model of the document's words."""

import random
import unittest

from tests.calls import find, image, load, put, run, seal, start
from tests.reference import LAST, image_of


class Model:
    """Keeps the groups of entries that pages have sealed, and the entries that are open."""

    def __init__(self):
        self.groups = []
        self.waiting = []

    def entries(self):
        return [entry for group in self.groups for entry in group] + self.waiting

    def put(self, time, blob):
        if not 0 <= time <= LAST:
            return [-2]
        if self.entries() and time < self.entries()[-1][0]:
            return [-3]
        self.waiting.append((time, blob))
        different = list(dict.fromkeys(blob for time, blob in self.entries()))
        return [len(self.entries()) - 1, different.index(blob)]

    def seal(self):
        if not self.waiting:
            return [-4]
        self.groups.append(self.waiting)
        self.waiting = []
        return [len(self.groups) - 1]

    def image(self):
        octets = image_of(self.groups)
        return [len(octets)] + octets

    def load(self, groups):
        self.groups = list(groups)
        self.waiting = []
        return [len(groups)]

    def find(self, lo, hi):
        if lo < 0 or hi < 0:
            return [-2]
        found = [k for k, entry in enumerate(self.entries()) if lo <= entry[0] <= hi]
        return [len(found)] + found


class Walk(unittest.TestCase):
    def step(self, chance, model, kept):
        """One call, and what the model answers to it."""
        kind = chance.choice("ppppppssiflbk")
        if kind == "p":
            entries = model.entries()
            time = (entries[-1][0] if entries else 0) + chance.choice((0, 0, 1, 5, 127, 128, 70000, 2 ** 40, -1))
            blob = tuple(chance.choice((0, 1, 16, 128)) for k in range(chance.choice((0, 1, 1, 2, 3, 14, 130))))
            return put(time, blob), model.put(time, blob)
        if kind == "s":
            return seal(), model.seal()
        if kind == "i":
            return image(), model.image()
        if kind == "f":
            lo, hi = chance.choice((0, 1, 130, -1)), chance.choice((0, 128, 2 ** 41, LAST, -1))
            return find(lo, hi), model.find(lo, hi)
        if kind == "k":
            kept.append(list(model.groups))
            return image(), model.image()
        groups = chance.choice(kept)
        octets = image_of(groups)
        if kind == "l" or not groups:
            return load(octets), model.load(groups)
        number = chance.randrange(len(groups))
        place = chance.randrange(len(image_of(groups[:number])) + 2, len(image_of(groups[:number + 1])))
        octets[place] ^= 1 << chance.randrange(8)
        return load(octets), [-100 - number]

    def test_walks(self):
        for seed in range(60):
            chance = random.Random(seed)
            model = Model()
            kept = [[]]
            calls = [start()]
            wanted = [[0]]
            for k in range(40):
                call, told = self.step(chance, model, kept)
                calls.append(call)
                wanted.append(told)
            with self.subTest(seed=seed):
                self.assertEqual(run(*calls), wanted)
