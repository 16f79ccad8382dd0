"""Point 12: digest."""

import unittest

from tests.calls import digest, last, put, run, seal, start, sums
from tests.reference import LAST, sha1, sha256


class Digest(unittest.TestCase):
    def test_examples(self):
        told = run(digest(0, b"abc"), digest(1, b"abc"))
        self.assertEqual([row[0] for row in told], [0, 0])
        self.assertEqual(bytes(told[0][1:]).hex(), "a9993e364706816aba3e25717850c26c9cd0d89d")
        self.assertEqual(bytes(told[1][1:]).hex(), "ba7816bf8f01cfea414140de5dae2223b00361a396177a9cb410ff61f20015ad")

    def test_lengths(self):
        for length in (0, 1, 55, 56, 63, 64, 65, 119, 120, 4095, 4096):
            octets = [(3 * k + length) % 256 for k in range(length)]
            with self.subTest(length=length):
                self.assertEqual(run(digest(0, octets), digest(1, octets)), [[0] + sha1(octets), [0] + sha256(octets)])

    def test_with_a_book_and_without(self):
        wanted = [[0] + sha1((1, 2)), [0] + sha256((1, 2)), [-2], [-2]]
        calls = (digest(0, (1, 2)), digest(1, (1, 2)), digest(2, (1, 2)), digest(0, n=-1))
        self.assertEqual(run(*calls), wanted)
        self.assertEqual(run(start(), *calls)[1:], wanted)
        self.assertEqual(run(start(), put(1, (5,)), seal(), *calls)[3:], wanted)

    def test_how_is_not_as_told(self):
        for how in (-1, 2, 3, 256, LAST, -LAST - 1):
            self.assertEqual(last(digest(how, (1, 2))), [-2])
            self.assertEqual(last(digest(how)), [-2])
            self.assertEqual(last(start(), digest(how)), [-2])

    def test_n_is_not_as_told(self):
        for n in (-1, 4097, LAST, -LAST - 1):
            for how in (0, 1, 2):
                self.assertEqual(last(digest(how, n=n)), [-2])
                self.assertEqual(last(start(), digest(how, n=n)), [-2])

    def test_it_makes_no_book(self):
        self.assertEqual(run(digest(0, (1,)), sums(), digest(2), sums())[1::2], [[-7], [-7]])

    def test_one_behind_another(self):
        told = run(digest(0, (1,)), digest(0), digest(0, (1,)), digest(1), digest(1, (1,)), digest(1))
        wanted = [sha1((1,)), sha1(()), sha1((1,)), sha256(()), sha256((1,)), sha256(())]
        self.assertEqual(told, [[0] + octets for octets in wanted])
