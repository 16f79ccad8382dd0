"""Points 3 and 4: seal and image."""

import unittest

from tests.calls import find, image, last, load, put, run, seal, start
from tests.reference import KEY, LAST, SALT, aes, image_of, sha256, texts_of


def puts(groups):
    """The calls that put the groups in, a page each."""
    calls = [start()]
    for group in groups:
        calls += [put(time, blob) for time, blob in group]
        calls.append(seal())
    return calls


class Seal(unittest.TestCase):
    def test_no_entry_is_open(self):
        self.assertEqual(run(start(), seal(), put(0), seal(), seal()), [[0], [-4], [0, 0], [0], [-4]])

    def test_all_open_entries_are_a_page(self):
        told = run(start(), put(0), put(1), seal(), seal(), put(2), seal(), seal())
        self.assertEqual(told[3:], [[0], [-4], [2, 0], [1], [-4]])

    def test_64_pages_and_one_more(self):
        octets = image_of([[(k, ())] for k in range(63)])
        told = run(start(), load(octets), put(63), seal(), seal(), put(64), seal(), find(64, 64), seal(), image())
        self.assertEqual(told[1:9], [[63], [63, 0], [63], [-4], [64, 0], [-5], [1, 64], [-5]])
        self.assertEqual(told[9][1:], image_of([[(k, ())] for k in range(64)]))

    def test_nothing_open_comes_ahead_of_no_room(self):
        octets = image_of([[(k, ())] for k in range(64)])
        self.assertEqual(run(start(), load(octets), seal(), put(64), seal())[1:], [[64], [-4], [64, 0], [-5]])

    def test_a_refusal_changes_nothing(self):
        wanted = last(start(), put(1, (1,)), seal(), put(2, (1,)), seal(), image())
        told = last(start(), seal(), put(1, (1,)), seal(), seal(), put(2, (1,)), seal(), seal(), image())
        self.assertEqual(told, wanted)


class Image(unittest.TestCase):
    def check(self, groups, *behind):
        wanted = image_of(groups)
        self.assertEqual(last(*puts(groups), *behind, image()), [len(wanted)] + wanted)

    def test_without_pages(self):
        self.assertEqual(run(start(), image(), put(1), image()), [[0], [0], [0, 0], [0]])

    def test_a_page_octet_by_octet(self):
        text = [2, 5, 0, 3, 1, 2, 3, 0x80, 1, 1, 6, 6, 6, 6, 6, 6]
        link = aes(KEY, [0] * 16)
        encrypted = aes(KEY, [x ^ y for x, y in zip(text, link)])
        digest = sha256(sha256(SALT) + [1, 0] + encrypted)
        told = last(start(), put(5, (1, 2, 3)), put(133, (1, 2, 3)), seal(), image())
        self.assertEqual(told, [50, 1, 0] + encrypted + digest)

    def test_one_page(self):
        self.check([[(0, ())]])
        self.check([[(LAST, (1, 2, 3))]])
        self.check([[(0, (5,)), (0, (5,)), (127, (6,)), (255, ()), (16639, ()), (LAST, (6,))]])

    def test_texts_of_every_length_by_16(self):
        for length in range(0, 34):
            self.check([[(1, range(length))]])

    def test_long_blobs(self):
        self.check([[(k, [k] * length) for k, length in enumerate((127, 128, 511, 512))]])

    def test_several_pages(self):
        self.check([[(5, (1,)), (5, (2,))], [(5, (2,))], [(9, (3,)), (300, (3,)), (301, (1,))], [(301, ())]])

    def test_more_than_a_hundred_blobs(self):
        groups = [[(k, (k,)) for k in range(140)], [(140, (126,)), (140, (127,)), (141, (139,)), (141, (1, 1))]]
        self.check(groups)

    def test_a_text_of_more_than_255_blocks(self):
        self.check([[(k, [k] * 512) for k in range(9)], [(9, (1,))]])

    def test_numbers_of_blocks_round_the_second_octet(self):
        for blocks in (255, 256, 257, 511, 512, 513):
            lengths = [512] * (blocks // 33) + [16 * blocks - 516 * (blocks // 33) - 9]
            group = [(k, [k] * length) for k, length in enumerate(lengths)]
            self.assertEqual(len(texts_of([group])[0]), 16 * blocks)
            self.check([group])

    def test_open_entries_are_not_in_it(self):
        groups = [[(5, (1,)), (5, (2,))], [(6, (2,))]]
        self.check(groups, put(7, (3,)), put(8, (1,)))

    def test_it_changes_nothing(self):
        told = run(start(), put(1, (1,)), seal(), image(), image(), put(2, (1,)), image(), seal(), image())
        self.assertEqual(told[3], told[4])
        self.assertEqual(told[3], told[6])
        self.assertEqual(told[8][1:], image_of([[(1, (1,))], [(2, (1,))]]))

    def test_the_same_entries_in_other_pages_are_another_image(self):
        self.assertNotEqual(image_of([[(1, ()), (2, ())]]), image_of([[(1, ())], [(2, ())]]))
        self.check([[(1, ()), (2, ())]])
        self.check([[(1, ())], [(2, ())]])
