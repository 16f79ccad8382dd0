"""The calls that only ask: -7 without a book ahead of all else, and nothing is changed by them."""

import unittest

from tests.calls import digest, find, get, head, image, last, load, look, name, put, run, seal, start, sums
from tests.reference import LAST, head_of, image_of, sha1

GROUPS = [[(3, (1,)), (4, (2, 2))], [(4, (1,)), (9, ())]]
OCTETS = image_of(GROUPS)


def asks():
    """Calls that only ask: some are answered, some refused."""
    return [get(0), get(2), get(-1), get(LAST), name(0), name(1), name(99), look(sha1((1,))), look([0] * 20), head(),
            sums(), digest(0, (1, 2)), digest(1), digest(2), digest(0, n=-1), find(0, LAST), find(-1, 0), image()]


class NoBook(unittest.TestCase):
    def test_every_call(self):
        calls = (get(0), name(0), look([0] * 20), head(), sums())
        self.assertEqual(run(*calls), [[-7]] * 5)

    def test_ahead_of_not_as_told(self):
        for number in (-1, 1, LAST, -LAST - 1):
            self.assertEqual(run(get(number), name(number)), [[-7]] * 2)

    def test_until_there_is_a_book(self):
        told = run(get(0), sums(), put(1), load(OCTETS), digest(0), head(), start(), get(0), name(0), sums())
        self.assertEqual(told[:4], [[-7]] * 4)
        self.assertEqual(told[5:], [[-7], [0], [-2], [-2], [0, 0, 0, 0, 0, 0]])


class NothingChanges(unittest.TestCase):
    def check(self, calls):
        """Behind each of the calls all asks are made: what the calls answer is the same with and without them."""
        wanted = run(*calls)
        for count in range(1, len(calls) + 1):
            told = run(*calls[:count], *asks(), *asks(), *calls[count:])
            between = told[count:count + 2 * len(asks())]
            self.assertEqual(told[:count] + told[count + len(between):], wanted)
            self.assertEqual(between[:len(asks())], between[len(asks()):])

    def test_behind_puts_and_seals(self):
        behind = [image(), head(), sums(), find(0, LAST), get(1), name(1)]
        self.check([start(), put(3, (1,)), put(4, (2, 2)), seal(), put(4, (1,)), put(2), put(9), seal(), seal()] + behind)

    def test_behind_a_load(self):
        wrong = OCTETS[:-1] + [OCTETS[-1] ^ 128]
        behind = [image(), head(), sums(), find(0, LAST), get(4), name(3)]
        self.check([start(), put(1), load(OCTETS), load(wrong), put(9, (7,)), seal()] + behind)

    def test_without_a_book(self):
        self.check([seal(), start(), put(1), seal(), image()])


class BehindALoad(unittest.TestCase):
    def test_the_loaded_book_is_told(self):
        calls = (start(), put(50, (8,)), seal(), put(60, (9, 9, 9)), load(OCTETS))
        told = run(*calls, get(1), get(3), get(4), name(0), name(2), name(3), look(sha1(())), look(sha1((8,))),
                   head(), sums())[4:]
        wanted = [[2], [2, 4, 1, 2, 2], [0, 9, 2], [-2], [0] + sha1((1,)), [0] + sha1(()), [-2], [2], [-1],
                  [0] + head_of(GROUPS), [0, 4, 3, 3, 2, 0]]
        self.assertEqual(told, wanted)

    def test_the_same_as_of_the_book_that_was_written(self):
        ahead = (start(), put(3, (1,)), put(4, (2, 2)), seal(), put(4, (1,)), put(9), seal())
        self.assertEqual(last(*ahead, image()), [len(OCTETS)] + OCTETS)
        self.assertEqual(run(*ahead, *asks())[7:], run(start(), load(OCTETS), *asks())[2:])

    def test_a_refused_load_leaves_the_book(self):
        ahead = (start(), put(50, (8,)), seal(), put(60, (9, 9, 9)))
        wanted = run(*ahead, *asks())[4:]
        for refused, number in ((load(OCTETS[:-1]), -101), (load([0]), -100), (load(n=-1), -2)):
            self.assertEqual(run(*ahead, refused, *asks())[4:], [[number]] + wanted)
