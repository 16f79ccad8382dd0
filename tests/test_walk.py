"""Many books at random, each held against a plain model of the document's words."""

import random
import unittest

from tests.calls import digest, find, get, head, image, load, look, name, put, run, seal, start, sums
from tests.reference import LAST, head_of, image_of, sha1, sha256


class Model:
    """Keeps the groups of entries that pages have sealed, and the entries that are open."""

    def __init__(self):
        self.groups = []
        self.waiting = []

    def entries(self):
        return [entry for group in self.groups for entry in group] + self.waiting

    def blobs(self):
        return list(dict.fromkeys(blob for time, blob in self.entries()))

    def put(self, time, blob):
        if not 0 <= time <= LAST:
            return [-2]
        if self.entries() and time < self.entries()[-1][0]:
            return [-3]
        self.waiting.append((time, blob))
        return [len(self.entries()) - 1, self.blobs().index(blob)]

    def seal(self):
        if not self.waiting:
            return [-4]
        self.groups.append(self.waiting)
        self.waiting = []
        return [len(self.groups) - 1]

    def image(self):
        octets = image_of(self.groups)
        return [len(octets)] + octets

    def load(self, groups):
        self.groups = list(groups)
        self.waiting = []
        return [len(groups)]

    def find(self, lo, hi):
        if lo < 0 or hi < 0:
            return [-2]
        found = [k for k, entry in enumerate(self.entries()) if lo <= entry[0] <= hi]
        return [len(found)] + found

    def get(self, number):
        if not 0 <= number < len(self.entries()):
            return [-2]
        time, blob = self.entries()[number]
        return [len(blob), time, self.blobs().index(blob), *blob]

    def name(self, number):
        return [0] + sha1(self.blobs()[number]) if 0 <= number < len(self.blobs()) else [-2]

    def look(self, octets):
        names = [sha1(blob) for blob in self.blobs()]
        return [names.index(octets) if octets in names else -1]

    def head(self):
        return [0] + head_of(self.groups)

    def sums(self):
        octets = sum(len(blob) for blob in self.blobs())
        return [0, len(self.entries()), len(self.blobs()), octets, len(self.groups), len(self.waiting)]


class Walk(unittest.TestCase):
    def ask(self, chance, model):
        """One of the calls from get on, and what the model answers to it."""
        kind = chance.choice("gnlhsd")
        number = chance.randrange(-1, len(model.entries()) + 2)
        if kind == "g":
            return get(number), model.get(number)
        if kind == "n":
            return name(number), model.name(number)
        if kind == "l":
            octets = sha1(chance.choice(model.blobs() + [(99,)]))
            return look(octets), model.look(octets)
        if kind == "h":
            return head(), model.head()
        if kind == "s":
            return sums(), model.sums()
        octets = [chance.randrange(256) for k in range(chance.randrange(130))]
        how = chance.randrange(-1, 3)
        return digest(how, octets), {0: [0] + sha1(octets), 1: [0] + sha256(octets)}.get(how, [-2])

    def step(self, chance, model, kept):
        """One call, and what the model answers to it."""
        kind = chance.choice("ppppppssiflbkaaaaaaaa")
        if kind == "a":
            return self.ask(chance, model)
        if kind == "p":
            entries = model.entries()
            time = (entries[-1][0] if entries else 0) + chance.choice((0, 0, 1, 5, 127, 128, 70000, 2 ** 40, -1))
            blob = tuple(chance.choice((0, 1, 16, 128)) for k in range(chance.choice((0, 1, 1, 2, 3, 14, 130))))
            return put(time, blob), model.put(time, blob)
        if kind == "s":
            return seal(), model.seal()
        if kind == "i":
            return image(), model.image()
        if kind == "f":
            lo, hi = chance.choice((0, 1, 130, -1)), chance.choice((0, 128, 2 ** 41, LAST, -1))
            return find(lo, hi), model.find(lo, hi)
        if kind == "k":
            kept.append(list(model.groups))
            return image(), model.image()
        groups = chance.choice(kept)
        octets = image_of(groups)
        if kind == "l" or not groups:
            return load(octets), model.load(groups)
        number = chance.randrange(len(groups))
        place = chance.randrange(len(image_of(groups[:number])) + 2, len(image_of(groups[:number + 1])))
        octets[place] ^= 1 << chance.randrange(8)
        return load(octets), [-100 - number]

    def test_walks(self):
        for seed in range(60):
            chance = random.Random(seed)
            model = Model()
            kept = [[]]
            calls = [start()]
            wanted = [[0]]
            for k in range(59):
                call, told = self.step(chance, model, kept)
                calls.append(call)
                wanted.append(told)
            with self.subTest(seed=seed):
                self.assertEqual(run(*calls), wanted)
