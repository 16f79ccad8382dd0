"""The interface: one list of calls, one list of answers."""

import unittest

from sealedbook.book import UnknownCall, answers

from tests.calls import call, find, image, load, put, run, seal, start
from tests.reference import LAST, image_of

GROUPS = [[(1, (9, 8)), (2, ())], [(2, (9, 8))]]


def example():
    octets = image_of(GROUPS)
    calls = [put(1), start(), put(1, (5,)), load(octets), put(7, (1,)), put(6), seal(), image(), find(0, LAST)]
    calls += [load(octets[:-1]), seal(), start(), find(0, LAST)]
    return [x for one in calls for x in one]


class Interface(unittest.TestCase):
    def test_answers_written_in_one_list(self):
        calls = [3, 0, 0] + [1, 32] + [0] * 32 + [0] + [2, 4, 5, 2, 7, 7, 0] + [2, 2, 4, 0, 0] + [6, 2, 0, 9, 0]
        calls += [3, 0, 0, 5, 1, 0, 0, 4, 0, 0, 6, 2, 0, -1, 0]
        told = [1, -7] + [1, 0] + [2, 0, 0] + [1, -3] + [2, 1, 0] + [1, 0] + [1, 0] + [1, 0] + [1, -2]
        self.assertEqual(answers(calls), told)

    def test_one_call(self):
        self.assertEqual(answers(start()), [1, 0])
        self.assertEqual(answers(seal()), [1, -7])

    def test_what_is_handed_in_stays(self):
        calls = example()
        before = list(calls)
        answers(calls)
        self.assertEqual(calls, before)

    def test_what_is_handed_in_is_only_read(self):
        class ReadOnly(list):
            def refuse(self, *given):
                raise AssertionError("changed")
            append = extend = insert = pop = remove = clear = reverse = sort = refuse
            __setitem__ = __delitem__ = __iadd__ = __imul__ = refuse
        self.assertEqual(answers(ReadOnly(example())), answers(example()))

    def test_the_same_answers_twice(self):
        calls = example()
        first = answers(calls)
        kept = list(first)
        again = answers(calls)
        self.assertEqual(again, kept)
        first.clear()
        again.append(1)
        self.assertEqual(answers(calls), kept)

    def test_nothing_is_kept(self):
        answers(start() + put(1))
        self.assertEqual(answers(find(0, 9)), [1, -7])

    def test_whole_numbers_and_lists(self):
        told = answers(example())
        self.assertIs(type(told), list)
        for number in told:
            self.assertIs(type(number), int)

    def test_order_of_refusals(self):
        full = image_of([[(k, ())] for k in range(64)])
        calls = (put(-1), seal(), load(n=-1), find(-1, 0), start(), put(5), put(4, n=600), put(4), load(n=-1))
        self.assertEqual(run(*calls)[:4], [[-7]] * 4)
        self.assertEqual(run(*calls)[6:], [[-2], [-3], [-2]])
        self.assertEqual(run(start(), load(full), seal())[-1], [-4])

    def test_calls_that_are_not_there(self):
        for number in (0, 7, 13):
            for ahead in ([], start()):
                with self.assertRaises(UnknownCall):
                    answers(ahead + call(number, 0))

    def test_sixty_calls(self):
        told = run(start(), *[put(k, (k,)) for k in range(29)], *[seal(), put(99)] * 15)
        self.assertEqual(len(told), 60)
        self.assertEqual(told[-1], [43, 29])
        self.assertEqual(told[-2], [14])
