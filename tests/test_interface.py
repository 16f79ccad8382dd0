"""The interface: one list of calls, one list of answers."""

import unittest

from sealedbook.book import UnknownCall, answers

from tests.calls import call, digest, find, get, head, image, load, look, name, put, run, seal, start, sums
from tests.reference import LAST, SALT, head_of, image_of, sha1, sha256

GROUPS = [[(1, (9, 8)), (2, ())], [(2, (9, 8))]]


def example():
    octets = image_of(GROUPS)
    calls = [put(1), start(), put(1, (5,)), load(octets), put(7, (1,)), put(6), seal(), image(), find(0, LAST)]
    calls += [get(0), get(4), name(1), name(-1), look(sha1((1,))), look([0] * 20), head(), sums()]
    calls += [digest(0, (1, 2)), digest(1, (1, 2)), digest(2)]
    calls += [load(octets[:-1]), seal(), start(), find(0, LAST), get(0), sums()]
    return [x for one in calls for x in one]


class Interface(unittest.TestCase):
    def test_answers_written_in_one_list(self):
        calls = [3, 0, 0] + [1, 32] + [0] * 32 + [0] + [2, 4, 5, 2, 7, 7, 0] + [2, 2, 4, 0, 0] + [6, 2, 0, 9, 0]
        calls += [3, 0, 0, 5, 1, 0, 0, 4, 0, 0, 6, 2, 0, -1, 0]
        told = [1, -7] + [1, 0] + [2, 0, 0] + [1, -3] + [2, 1, 0] + [1, 0] + [1, 0] + [1, 0] + [1, -2]
        self.assertEqual(answers(calls), told)

    def test_all_twelve_calls_in_one_list(self):
        octets = image_of([[(5, (7, 7))]])
        calls = [1, 32] + list(range(32)) + [0] + start()
        calls += [2, 4, 5, 2, 7, 7, 0] + [3, 0, 0] + [4, 0, 0] + [5, 1 + len(octets), len(octets)] + octets + [0]
        calls += [6, 2, 0, 9, 0] + [7, 1, 0, 0] + [8, 1, 0, 0] + [9, 20] + sha1((7, 7)) + [0] + [10, 0, 0] + [11, 0, 0]
        calls += [12, 4, 0, 2, 8, 9, 0] + [12, 4, 1, 2, 8, 9, 0] + [12, 2, 1, 0, 0]
        told = [1, 0] + [1, 0] + [2, 0, 0] + [1, 0] + [51, 50] + octets + [1, 1]
        told += [2, 1, 0] + [5, 2, 5, 0, 7, 7] + [21, 0] + sha1((7, 7)) + [1, 0]
        told += [33, 0] + head_of([[(5, (7, 7))]]) + [6, 0, 1, 1, 2, 1, 0]
        told += [21, 0] + sha1((8, 9)) + [33, 0] + sha256((8, 9)) + [33, 0] + sha256(())
        self.assertEqual(answers(calls), told)

    def test_refusals_stand_alone(self):
        calls = [7, 1, 0, 0] + [10, 0, 0] + [12, 2, 5, 0, 0] + start() + [7, 1, 0, 0] + [8, 1, 0, 0]
        calls += [9, 20] + [0] * 20 + [0] + [11, 0, 0]
        told = [1, -7] + [1, -7] + [1, -2] + [1, 0] + [1, -2] + [1, -2] + [1, -1] + [6, 0, 0, 0, 0, 0, 0]
        self.assertEqual(answers(calls), told)

    def test_one_call(self):
        self.assertEqual(answers(digest(0)), [21, 0] + sha1(()))
        self.assertEqual(answers(sums()), [1, -7])
        self.assertEqual(answers(start()), [1, 0])
        self.assertEqual(answers(seal()), [1, -7])

    def test_what_is_handed_in_stays(self):
        calls = example()
        before = list(calls)
        answers(calls)
        self.assertEqual(calls, before)

    def test_what_is_handed_in_is_only_read(self):
        class ReadOnly(list):
            def refuse(self, *given):
                raise AssertionError("changed")
            append = extend = insert = pop = remove = clear = reverse = sort = refuse
            __setitem__ = __delitem__ = __iadd__ = __imul__ = refuse
        self.assertEqual(answers(ReadOnly(example())), answers(example()))

    def test_the_same_answers_twice(self):
        calls = example()
        first = answers(calls)
        kept = list(first)
        again = answers(calls)
        self.assertEqual(again, kept)
        first.clear()
        again.append(1)
        self.assertEqual(answers(calls), kept)

    def test_nothing_is_kept(self):
        answers(start() + put(1))
        for asked in (find(0, 9), get(0), name(0), look(sha1(())), head(), sums()):
            self.assertEqual(answers(asked), [1, -7])

    def test_whole_numbers_and_lists(self):
        told = answers(example())
        self.assertIs(type(told), list)
        for number in told:
            self.assertIs(type(number), int)

    def test_order_of_refusals(self):
        full = image_of([[(k, ())] for k in range(64)])
        calls = (put(-1), seal(), load(n=-1), find(-1, 0), start(), put(5), put(4, n=600), put(4), load(n=-1))
        self.assertEqual(run(*calls)[:4], [[-7]] * 4)
        self.assertEqual(run(*calls)[6:], [[-2], [-3], [-2]])
        self.assertEqual(run(start(), load(full), seal())[-1], [-4])

    def test_calls_that_are_not_there(self):
        for number in (-1, 0, 13):
            for ahead in ([], start()):
                with self.assertRaises(UnknownCall):
                    answers(ahead + call(number, 0))

    def test_sixty_calls(self):
        told = run(start(), *[put(k, (k,)) for k in range(29)], *[seal(), put(99)] * 15)
        self.assertEqual(len(told), 60)
        self.assertEqual(told[-1], [43, 29])
        self.assertEqual(told[-2], [14])

    def test_sixty_calls_of_all_kinds(self):
        once = (put(3, (1,)), seal(), image(), load(), find(0, 9), get(0), name(0), look(sha1((1,))), head(), sums(),
                digest(0), digest(1))
        told = run(*[start(), *once] * 4, *once[:8])
        self.assertEqual(len(told), 60)
        gone = [[0], [-2], [-2], [-1], [0] + sha256(SALT), [0] * 6, [0] + sha1(()), [0] + sha256(())]
        octets = image_of([[(3, (1,))]])
        first = [[0], [0, 0], [0], [len(octets)] + octets, [0]] + gone
        self.assertEqual(told, first * 4 + first[1:9])
