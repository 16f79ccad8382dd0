"""Point 7: get."""

import unittest

from tests.calls import get, last, load, put, run, seal, start
from tests.reference import LAST, image_of

LONG = tuple(255 - k % 256 for k in range(512))


class Get(unittest.TestCase):
    def test_one_entry(self):
        self.assertEqual(last(start(), put(9, (3, 4)), get(0)), [2, 9, 0, 3, 4])

    def test_the_first_and_the_last_sealed(self):
        calls = (start(), put(5, (1,)), put(6, (2, 2)), put(7, (3, 3, 3)), seal())
        self.assertEqual(run(*calls, get(0), get(2))[5:], [[1, 5, 0, 1], [3, 7, 2, 3, 3, 3]])

    def test_the_first_and_the_last_open(self):
        calls = (start(), put(5, (1,)), put(6, (2, 2)), put(7, (3, 3, 3)))
        self.assertEqual(run(*calls, get(0), get(2))[4:], [[1, 5, 0, 1], [3, 7, 2, 3, 3, 3]])

    def test_sealed_and_open(self):
        calls = (start(), put(5, (1,)), put(6, (2, 2)), seal(), put(7, (3,)), seal(), put(7, (2, 2)), put(8, (4,)))
        told = run(*calls, *[get(k) for k in range(6)])[8:]
        self.assertEqual(told, [[1, 5, 0, 1], [2, 6, 1, 2, 2], [1, 7, 2, 3], [2, 7, 1, 2, 2], [1, 8, 3, 4], [-2]])

    def test_no_octets(self):
        told = run(start(), put(0), put(3, (1,)), put(4), get(0), get(2), seal(), get(0), get(2))
        self.assertEqual(told[4:6], [[0, 0, 0], [0, 4, 0]])
        self.assertEqual(told[7:], [[0, 0, 0], [0, 4, 0]])

    def test_two_entries_of_one_blob(self):
        told = run(start(), put(1, (9,)), put(2, (8, 7)), put(2, (8, 7)), put(3, (9,)), *[get(k) for k in range(4)])
        self.assertEqual(told[5:], [[1, 1, 0, 9], [2, 2, 1, 8, 7], [2, 2, 1, 8, 7], [1, 3, 0, 9]])

    def test_the_longest_blob_and_the_last_time(self):
        told = run(start(), put(0, LONG), put(LAST, LONG), get(0), get(1))
        self.assertEqual(told[3:], [[512, 0, 0, *LONG], [512, LAST, 0, *LONG]])

    def test_not_there(self):
        for entry in (-1, -2, 2, 3, LAST, -LAST - 1):
            self.assertEqual(last(start(), put(1, (1,)), seal(), put(2, (2,)), get(entry)), [-2])

    def test_without_entries(self):
        for entry in (-1, 0, 1, LAST, -LAST - 1):
            self.assertEqual(last(start(), get(entry)), [-2])

    def test_entries_of_a_refused_put(self):
        self.assertEqual(run(start(), put(5), put(4, (1,)), get(1), get(0))[2:], [[-3], [-2], [0, 5, 0]])

    def test_behind_a_load(self):
        octets = image_of([[(2, (7, 7)), (5, ())], [(5, (7, 7))]])
        calls = (start(), put(8, (1,)), put(8, (2,)), put(8, (3,)), put(8, (4,)), load(octets))
        told = run(*calls, get(0), get(1), get(2), get(3), put(6, (4,)), get(3))
        self.assertEqual(told[6:], [[2, 2, 0, 7, 7], [0, 5, 1], [2, 5, 0, 7, 7], [-2], [3, 2], [1, 6, 2, 4]])

    def test_the_last_of_512(self):
        octets = image_of([[(k, (k % 3,)) for k in range(512)]])
        told = run(start(), load(octets), get(511), get(512), get(0))
        self.assertEqual(told[1:], [[1], [1, 511, 1, 1], [-2], [1, 0, 0, 0]])

    def test_behind_another_book(self):
        self.assertEqual(run(start(), put(1), start(), get(0))[2:], [[0], [-2]])
