"""Point 6: find."""

import unittest

from tests.calls import find, last, load, put, run, seal, start
from tests.reference import LAST, image_of

TIMES = (0, 3, 3, 3, 8, LAST - 1, LAST, LAST)


class Find(unittest.TestCase):
    def found(self, lo, hi):
        told = last(start(), *[put(time, (k % 2,)) for k, time in enumerate(TIMES)], find(lo, hi))
        self.assertEqual(told[0], len(told) - 1)
        return told[1:]

    def test_without_entries(self):
        self.assertEqual(last(start(), find(0, LAST)), [0])

    def test_all(self):
        self.assertEqual(self.found(0, LAST), list(range(8)))

    def test_both_edges_count(self):
        self.assertEqual(self.found(3, 8), [1, 2, 3, 4])
        self.assertEqual(self.found(4, 8), [4])
        self.assertEqual(self.found(3, 7), [1, 2, 3])
        self.assertEqual(self.found(4, 7), [])
        self.assertEqual(self.found(0, 0), [0])
        self.assertEqual(self.found(LAST, LAST), [6, 7])
        self.assertEqual(self.found(LAST - 1, LAST - 1), [5])

    def test_equal_times(self):
        self.assertEqual(self.found(3, 3), [1, 2, 3])

    def test_lo_above_hi(self):
        self.assertEqual(self.found(8, 3), [])
        self.assertEqual(self.found(LAST, 0), [])

    def test_not_as_told(self):
        for lo, hi in ((-1, 5), (5, -1), (-1, -1), (-LAST - 1, LAST), (0, -LAST - 1)):
            self.assertEqual(last(start(), put(3), find(lo, hi)), [-2])

    def test_sealed_and_open_entries(self):
        told = run(start(), put(1), seal(), put(2), seal(), put(3), find(0, 9), find(2, 3))
        self.assertEqual(told[6:], [[3, 0, 1, 2], [2, 1, 2]])

    def test_behind_a_load(self):
        octets = image_of([[(2, ()), (5, (1,))], [(5, ())]])
        self.assertEqual(last(start(), put(1), load(octets), put(6), find(5, 6)), [3, 1, 2, 3])

    def test_it_changes_nothing(self):
        told = run(start(), put(3), find(0, 9), find(-1, 0), find(9, 0), find(0, 9), put(3), seal())
        self.assertEqual(told[2:], [[1, 0], [-2], [0], [1, 0], [1, 0], [0]])
