"""Points 1 and 2: open and put."""

import unittest

from tests.calls import call, find, image, last, load, put, run, seal, start
from tests.reference import KEY, LAST, SALT, image_of


def many(count, first=0):
    """Different blobs of two octets."""
    return [(k // 256, k % 256) for k in range(first, first + count)]


class Start(unittest.TestCase):
    def test_no_book(self):
        self.assertEqual(run(put(0), seal(), image(), load(), find(0, 1)), [[-7]] * 5)
        self.assertEqual(run(put(-1, n=513), load(n=-1), find(-1, -1)), [[-7]] * 3)

    def test_a_book_without_entries(self):
        self.assertEqual(run(start(), find(0, LAST), image(), seal()), [[0], [0], [0], [-4]])

    def test_refusals_ahead_leave_no_trace(self):
        self.assertEqual(run(put(5, (1,)), start(), put(4, (2,))), [[-7], [0], [0, 0]])

    def test_a_second_one_is_without_entries(self):
        told = run(start(), put(9, (1,)), seal(), put(9, (2,)), start(), find(0, LAST), image(), seal(), put(1, (2,)))
        self.assertEqual(told[4:], [[0], [0], [0], [-4], [0, 0]])

    def test_a_second_one_has_its_own_key_and_salt(self):
        other = KEY[::-1]
        wanted = image_of([[(3, (1, 2))]], other, KEY)
        told = last(start(), put(1), seal(), start(other, KEY), put(3, (1, 2)), seal(), image())
        self.assertEqual(told, [len(wanted)] + wanted)

    def test_key_and_salt_each_count(self):
        for key, salt in ((KEY[:15] + [0], SALT), (KEY, SALT[:15] + [0]), ([0] + KEY[1:], SALT), (SALT, KEY)):
            wanted = image_of([[(3, (1, 2))]], key, salt)
            self.assertEqual(last(start(key, salt), put(3, (1, 2)), seal(), image()), [len(wanted)] + wanted)


class Put(unittest.TestCase):
    def test_numbers(self):
        told = run(start(), put(1, (7,)), put(1, (8,)), put(2, (7,)), put(3, ()), put(3, ()), put(4, (7, 0)))
        self.assertEqual(told[1:], [[0, 0], [1, 1], [2, 0], [3, 2], [4, 2], [5, 3]])

    def test_the_same_octets_after_a_seal(self):
        told = run(start(), put(1, (7,)), seal(), put(1, (7,)), put(1, (9,)), seal(), put(1, (9,)))
        self.assertEqual(told[1:], [[0, 0], [0], [1, 0], [2, 1], [1], [3, 1]])

    def test_times_at_the_edges(self):
        self.assertEqual(run(start(), put(0), put(LAST), put(LAST)), [[0], [0, 0], [1, 0], [2, 0]])

    def test_lengths_at_the_edges(self):
        self.assertEqual(run(start(), put(0, [255] * 512), put(0, ())), [[0], [0, 0], [1, 1]])

    def test_not_as_told(self):
        for time in (-1, -LAST - 1):
            self.assertEqual(last(start(), put(time, (1,))), [-2])
        for n in (-1, 513, LAST, -LAST - 1):
            self.assertEqual(last(start(), put(0, n=n)), [-2])

    def test_time_falls(self):
        told = run(start(), put(5), put(4), put(5), put(0), put(6), put(5))
        self.assertEqual(told[1:], [[0, 0], [-3], [1, 0], [-3], [2, 0], [-3]])
        self.assertEqual(last(start(), put(5), seal(), put(4)), [-3])
        self.assertEqual(last(start(), put(LAST), put(LAST - 1)), [-3])

    def test_nothing_has_changed_after_a_refusal(self):
        ahead = (start(), put(5, (1,)), seal(), put(6, (2,)))
        behind = (find(0, LAST), put(6, (3,)), seal(), image())
        wanted = run(*ahead, *behind)[4:]
        for refused in (put(-1, (3,)), put(7, n=513), put(7, n=-1), put(5, (4,))):
            told = run(*ahead, refused, *behind)
            self.assertLess(told[4][0], 0)
            self.assertEqual(told[5:], wanted)


class Room(unittest.TestCase):
    def full(self, group, behind):
        """Loads the group's entries and makes the calls behind; the load must be taken."""
        told = run(start(), load(image_of([group])), *behind)
        self.assertEqual(told[1], [1])
        return told[2:]

    def test_512_entries(self):
        group = [(3, (1,))] * 511
        told = self.full(group, (put(3, (2,)), put(3, (1,)), put(4, (3,)), put(2, (1,)), find(0, LAST)))
        self.assertEqual(told[:4], [[511, 1], [-5], [-5], [-3]])
        self.assertEqual(told[4], [512] + list(range(512)))

    def test_256_blobs(self):
        group = [(0, blob) for blob in many(255)]
        told = self.full(group, (put(0, (9,)), put(0, (8,)), put(0, ()), put(0, (9,)), put(0, (0, 0)), put(0, (8,))))
        self.assertEqual(told, [[255, 255], [-5], [-5], [256, 255], [257, 0], [-5]])

    def test_32768_octets(self):
        blobs = [blob + (0,) * 510 for blob in many(63)]
        group = [(0, blob) for blob in blobs]
        behind = (put(0, (1,) * 511), put(0, (2, 2)), put(0, (2,)), put(0, (3,)), put(0, ()), put(0, blobs[0]))
        told = self.full(group, behind)
        self.assertEqual(told, [[63, 63], [-5], [64, 64], [-5], [65, 65], [66, 0]])

    def test_one_blob_that_fills_the_room(self):
        group = [(0, blob + (0,) * 510) for blob in many(63)]
        self.assertEqual(self.full(group, (put(0, (1,) * 512), put(0, (1,)))), [[63, 63], [-5]])

    def test_order_of_refusals(self):
        group = [(3, (1,))] * 512
        told = self.full(group, (put(2, n=513), put(-1, (1,)), put(2, (1,)), put(3, (1,)), put(2, n=-1)))
        self.assertEqual(told, [[-2], [-2], [-3], [-5], [-2]])

    def test_nothing_has_changed_after_no_room(self):
        group = [(0, blob) for blob in many(256)]
        behind = (find(0, LAST), put(1, (0, 5)), seal(), image())
        wanted = self.full(group, behind)
        self.assertEqual(self.full(group, (put(7, (1,)),) + behind), [[-5]] + wanted)


class Written(unittest.TestCase):
    def test_open_is_call_1_with_32_numbers(self):
        self.assertEqual(run(call(1, *range(32))), [[0]])
