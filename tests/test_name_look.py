"""Points 8 and 9: name and look."""

import unittest

from tests.calls import get, last, load, look, name, put, run, seal, start, sums
from tests.reference import LAST, image_of, sha1

# Two different rows of 320 octets with one SHA-1: the beginnings of the two files of the SHAttered collision.
SAME_BEGINNING = (
    "255044462d312e330a25e2e3cfd30a0a0a312030206f626a0a3c3c2f57696474682032203020522f4865696768742033"
    "203020522f547970652034203020522f537562747970652035203020522f46696c7465722036203020522f436f6c6f72"
    "53706163652037203020522f4c656e6774682038203020522f42697473506572436f6d706f6e656e7420383e3e0a7374"
    "7265616d0affd8fffe00245348412d3120697320646561642121212121852fec092339759c39b1a1c63c4c97e1fffe01"
)
ENDS = (
    "7f46dc93a6b67e013b029aaa1db2560b45ca67d688c7f84b8c4c791fe02b3df614f86db1690901c56b45c1530afedfb7"
    "6038e972722fe7ad728f0e4904e046c230570fe9d41398abe12ef5bc942be33542a4802d98b5d70f2a332ec37fac3514"
    "e74ddc0f2cc1a874cd0c78305a21566461309789606bd0bf3f98cda8044629a1",
    "7346dc9166b67e118f029ab621b2560ff9ca67cca8c7f85ba84c79030c2b3de218f86db3a90901d5df45c14f26fedfb3"
    "dc38e96ac22fe7bd728f0e45bce046d23c570feb141398bb552ef5a0a82be331fea48037b8b5d71f0e332edf93ac3500"
    "eb4ddc0decc1a864790c782c76215660dd309791d06bd0af3f98cda4bc4629b1",
)
TWINS = [tuple(bytes.fromhex(SAME_BEGINNING + end)) for end in ENDS]

BLOBS = [(1, 2, 3), (), (0,), (255,) * 512, (9,) * 64]


def book_with(blobs):
    return [start()] + [put(k, blob) for k, blob in enumerate(blobs)]


class Name(unittest.TestCase):
    def named(self, calls, blob):
        return run(*calls, name(blob))[-1]

    def test_an_example(self):
        self.assertEqual(self.named(book_with([b"abc"]), 0)[0], 0)
        self.assertEqual(bytes(self.named(book_with([b"abc"]), 0)[1:]).hex(), "a9993e364706816aba3e25717850c26c9cd0d89d")

    def test_the_first_and_the_last(self):
        for count in range(1, len(BLOBS) + 1):
            calls = book_with(BLOBS[:count])
            self.assertEqual(self.named(calls, 0), [0] + sha1(BLOBS[0]))
            self.assertEqual(self.named(calls, count - 1), [0] + sha1(BLOBS[count - 1]))

    def test_no_octets(self):
        told = self.named(book_with([()]), 0)
        self.assertEqual(bytes(told[1:]).hex(), "da39a3ee5e6b4b0d3255bfef95601890afd80709")

    def test_lengths_round_a_blocks_end(self):
        for length in (55, 56, 63, 64, 65, 511, 512):
            blob = [length % 256] * length
            self.assertEqual(self.named(book_with([blob]), 0), [0] + sha1(blob))

    def test_not_there(self):
        for blob in (-1, -2, len(BLOBS), len(BLOBS) + 1, LAST, -LAST - 1):
            self.assertEqual(self.named(book_with(BLOBS), blob), [-2])

    def test_without_blobs(self):
        for blob in (-1, 0, 1, LAST, -LAST - 1):
            self.assertEqual(self.named([start()], blob), [-2])

    def test_blobs_are_counted_not_entries(self):
        calls = book_with([(5,), (5,), (6,)])
        self.assertEqual(self.named(calls, 1), [0] + sha1((6,)))
        self.assertEqual(self.named(calls, 2), [-2])

    def test_sealed_and_open(self):
        calls = [start(), put(1, (5,)), seal(), put(1, (6,))]
        self.assertEqual(self.named(calls, 0), [0] + sha1((5,)))
        self.assertEqual(self.named(calls, 1), [0] + sha1((6,)))

    def test_blobs_of_a_refused_put(self):
        told = run(start(), put(5, (1,)), put(4, (2,)), name(1), look(sha1((2,))))
        self.assertEqual(told[2:], [[-3], [-2], [-1]])

    def test_behind_a_load(self):
        octets = image_of([[(1, (7,)), (2, ())], [(2, (7,)), (3, (8,))]])
        calls = [start(), put(1, (1,)), put(1, (2,)), put(1, (3,)), put(1, (4,)), load(octets)]
        wanted = [[0] + sha1((7,)), [0] + sha1(()), [0] + sha1((8,)), [-2]]
        self.assertEqual(run(*calls, *[name(k) for k in range(4)])[6:], wanted)
        self.assertEqual(self.named(calls + [put(4, (1,))], 3), [0] + sha1((1,)))


class Look(unittest.TestCase):
    def looked(self, calls, blob):
        return run(*calls, look(sha1(blob)))[-1]

    def test_every_blob(self):
        for count in range(1, len(BLOBS) + 1):
            calls = book_with(BLOBS[:count])
            for number in range(count):
                self.assertEqual(self.looked(calls, BLOBS[number]), [number])

    def test_not_there(self):
        self.assertEqual(self.looked(book_with(BLOBS), (1, 2)), [-1])
        for octets in ([0] * 20, [255] * 20):
            self.assertEqual(last(*book_with(BLOBS), look(octets)), [-1])

    def test_every_octet_counts(self):
        for place in range(20):
            octets = sha1(BLOBS[0])
            octets[place] ^= 1
            self.assertEqual(last(*book_with(BLOBS), look(octets)), [-1])

    def test_without_blobs(self):
        self.assertEqual(self.looked([start()], ()), [-1])
        self.assertEqual(last(start(), look([0] * 20)), [-1])

    def test_blobs_are_counted_not_entries(self):
        self.assertEqual(self.looked(book_with([(5,), (5,), (6,)]), (6,)), [1])

    def test_sealed_and_open(self):
        calls = [start(), put(1, (5,)), seal(), put(1, (6,))]
        self.assertEqual(self.looked(calls, (5,)), [0])
        self.assertEqual(self.looked(calls, (6,)), [1])

    def test_what_name_answers(self):
        for number in range(len(BLOBS)):
            told = last(*book_with(BLOBS), name(number))
            self.assertEqual(last(*book_with(BLOBS), look(told[1:])), [number])

    def test_behind_a_load(self):
        calls = [start(), put(1, (1,)), put(1, (7,)), load(image_of([[(1, (7,)), (2, ())], [(2, (8,))]]))]
        told = [self.looked(calls, blob) for blob in ((7,), (), (8,), (1,))]
        self.assertEqual(told, [[0], [1], [2], [-1]])
        self.assertEqual(self.looked(calls + [put(2, (1,))], (1,)), [3])

    def test_the_last_of_256(self):
        octets = image_of([[(k, (k,)) for k in range(256)]])
        self.assertEqual(run(start(), load(octets), look(sha1((255,))), name(255), name(256))[2:],
                         [[255], [0] + sha1((255,)), [-2]])


class Twins(unittest.TestCase):
    """Different blobs with one name are two blobs, and the first is looked up."""

    def test_they_are_twins(self):
        self.assertNotEqual(TWINS[0], TWINS[1])
        self.assertEqual(sha1(TWINS[0]), sha1(TWINS[1]))

    def test_the_first_is_told(self):
        for one, other in (TWINS, TWINS[::-1]):
            told = run(start(), put(1, (1,)), put(1, one), put(1, other), put(1, (2,)), look(sha1(one)), sums())
            self.assertEqual(told[1:], [[0, 0], [1, 1], [2, 2], [3, 3], [1], [0, 4, 4, 642, 0, 4]])

    def test_both_have_the_name_and_their_own_octets(self):
        told = run(start(), put(1, TWINS[0]), put(2, TWINS[1]), name(0), name(1), get(0), get(1))
        self.assertEqual(told[3], told[4])
        self.assertEqual(told[3], [0] + sha1(TWINS[1]))
        self.assertEqual(told[5:], [[320, 1, 0, *TWINS[0]], [320, 2, 1, *TWINS[1]]])

    def test_behind_a_load(self):
        octets = image_of([[(1, ()), (1, TWINS[1])], [(1, TWINS[0])]])
        told = run(start(), load(octets), look(sha1(TWINS[0])), get(1), get(2))
        self.assertEqual(told[1:], [[2], [1], [320, 1, 1, *TWINS[1]], [320, 1, 2, *TWINS[0]]])
