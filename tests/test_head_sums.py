"""Points 10 and 11: head and sums."""

import unittest

from tests.calls import head, image, last, load, put, run, seal, start, sums
from tests.reference import KEY, SALT, head_of, image_of, sha256

GROUPS = [[(5, (1,)), (6, (2, 2))], [(6, (1,))], [(900, ()), (901, (3,) * 200), (901, ())]]


def wrong(octets):
    """The image with its last octet changed."""
    return octets[:-1] + [octets[-1] ^ 1]


class Head(unittest.TestCase):
    def test_of_a_new_book(self):
        self.assertEqual(last(start(), head()), [0] + sha256(SALT))
        self.assertEqual(last(start(salt=[0] * 16), head()), [0] + sha256([0] * 16))
        self.assertEqual(last(start(key=[0] * 16), head()), [0] + sha256(SALT))

    def test_behind_each_seal(self):
        calls = [start()]
        for count, group in enumerate(GROUPS, start=1):
            calls += [put(time, blob) for time, blob in group] + [seal()]
            self.assertEqual(last(*calls, head()), [0] + head_of(GROUPS[:count]))

    def test_the_end_of_the_image(self):
        told = run(start(), put(1, (1,)), seal(), put(2), seal(), image(), head())
        self.assertEqual(told[6], [0] + told[5][-32:])

    def test_behind_a_put_that_is_not_sealed(self):
        told = run(start(), put(1), head(), seal(), head(), put(2), head(), put(0), head())
        self.assertEqual(told[2], [0] + sha256(SALT))
        self.assertEqual(told[4], [0] + head_of([[(1, ())]]))
        self.assertEqual(told[6], told[4])
        self.assertEqual(told[7:], [[-3], told[4]])

    def test_behind_a_refused_seal(self):
        told = run(start(), seal(), head(), put(1), seal(), head(), seal(), head())
        self.assertEqual(told[2], [0] + sha256(SALT))
        self.assertEqual(told[6:], [[-4], told[5]])

    def test_behind_a_load(self):
        for count in range(len(GROUPS) + 1):
            octets = image_of(GROUPS[:count])
            self.assertEqual(last(start(), put(1, (9,)), seal(), load(octets), head()), [0] + head_of(GROUPS[:count]))

    def test_behind_a_seal_behind_a_load(self):
        calls = (start(), load(image_of(GROUPS[:1])), put(6, (1,)), head(), seal(), head())
        self.assertEqual(run(*calls)[3:], [[0] + head_of(GROUPS[:1]), [1], [0] + head_of(GROUPS[:2])])

    def test_behind_a_refused_load(self):
        octets = image_of(GROUPS)
        for refused, number in ((load(wrong(octets)), -102), (load(octets[:-1]), -102), (load(n=-1), -2)):
            told = run(start(), put(1, (9,)), seal(), head(), refused, head())
            self.assertEqual(told[3:], [[0] + head_of([[(1, (9,))]]), [number], told[3]])
            self.assertEqual(run(start(), refused, head())[1:], [[number], [0] + sha256(SALT)])

    def test_of_another_book(self):
        self.assertEqual(last(start(), put(1), seal(), start(SALT, KEY), head()), [0] + sha256(KEY))


class Sums(unittest.TestCase):
    def test_of_a_new_book(self):
        self.assertEqual(last(start(), sums()), [0, 0, 0, 0, 0, 0])

    def test_each_number(self):
        told = run(start(), put(1, (1, 2)), sums(), put(1, (3, 4, 5)), sums(), seal(), sums(), put(2, (6,)), sums())
        self.assertEqual(told[2::2], [[0, 1, 1, 2, 0, 1], [0, 2, 2, 5, 0, 2], [0, 2, 2, 5, 1, 0], [0, 3, 3, 6, 1, 1]])

    def test_some_are_open(self):
        calls = (start(), put(1, (1,)), put(1, (2,)), seal(), put(2, (3,)), seal(), put(3, (4,)), put(3, (5,)))
        self.assertEqual(last(*calls, put(4, (6,)), sums()), [0, 6, 6, 6, 2, 3])

    def test_the_same_octets_twice(self):
        told = run(start(), put(1, (1, 2)), put(2, (1, 2)), sums(), seal(), put(3, (1, 2)), sums(), seal(), sums())
        self.assertEqual([told[3], told[6], told[8]], [[0, 2, 1, 2, 0, 2], [0, 3, 1, 2, 1, 1], [0, 3, 1, 2, 2, 0]])

    def test_a_blob_of_no_octets(self):
        self.assertEqual(last(start(), put(1), sums()), [0, 1, 1, 0, 0, 1])
        self.assertEqual(last(start(), put(1), put(1, (7,)), put(1), sums()), [0, 3, 2, 1, 0, 3])

    def test_long_blobs(self):
        self.assertEqual(last(start(), *[put(1, [k] * 512) for k in range(5)], sums()), [0, 5, 5, 2560, 0, 5])

    def test_behind_a_refused_put_or_seal(self):
        told = run(start(), put(5, (1,)), put(4, (2,)), sums(), put(5, n=513), sums(), seal(), seal(), sums())
        self.assertEqual([told[3], told[5], told[8]], [[0, 1, 1, 1, 0, 1]] * 2 + [[0, 1, 1, 1, 1, 0]])

    def test_behind_a_load(self):
        calls = (start(), put(1, (9, 9, 9)), seal(), put(1, (8,)), load(image_of(GROUPS)))
        self.assertEqual(run(*calls, sums(), put(901, (4, 4)), put(902, (1,)), sums(), seal(), sums())[5:],
                         [[0, 6, 4, 203, 3, 0], [6, 4], [7, 0], [0, 8, 5, 205, 3, 2], [3], [0, 8, 5, 205, 4, 0]])
        self.assertEqual(run(*calls, load(), sums())[5:], [[0], [0, 0, 0, 0, 0, 0]])

    def test_behind_a_refused_load(self):
        calls = (start(), put(1, (9, 9, 9)), seal(), put(1, (8,)), load(wrong(image_of(GROUPS))), sums())
        self.assertEqual(run(*calls)[4:], [[-102], [0, 2, 2, 4, 1, 1]])

    def test_full(self):
        octets = image_of([[(0, (1,))] * 449] + [[(k, (2,))] for k in range(63)])
        self.assertEqual(run(start(), load(octets), sums(), put(99), sums())[2:],
                         [[0, 512, 2, 2, 64, 0], [-5], [0, 512, 2, 2, 64, 0]])

    def test_of_another_book(self):
        self.assertEqual(last(start(), put(1, (1,)), seal(), put(1, (2,)), start(), sums()), [0, 0, 0, 0, 0, 0])
