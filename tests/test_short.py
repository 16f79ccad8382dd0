"""Short numbers, written and read."""

import unittest

from sealedbook.short import Reader, WrongPage, write_short

LAST = 2 ** 63 - 1

FORMS = (
    (0, [0]),
    (1, [1]),
    (127, [0x7F]),
    (128, [0x80, 0x01]),
    (300, [0xAC, 0x02]),
    (16383, [0xFF, 0x7F]),
    (16384, [0x80, 0x80, 0x01]),
    (LAST, [0xFF] * 8 + [0x7F]),
)


class ShortNumbers(unittest.TestCase):
    def refused(self, octets, highest=LAST):
        with self.assertRaises(WrongPage):
            Reader(octets).take_short(highest)

    def test_written(self):
        for number, octets in FORMS:
            self.assertEqual(write_short(number), octets)

    def test_read(self):
        for number, octets in FORMS:
            reader = Reader(octets + [5])
            self.assertEqual(reader.take_short(LAST), number)
            self.assertEqual(reader.take_octets(1), [5])
            self.assertTrue(reader.is_done())

    def test_too_long_by_an_octet(self):
        for number, octets in FORMS:
            self.refused(octets[:-1] + [octets[-1] + 0x80, 0])

    def test_cut_off(self):
        self.refused([])
        for number, octets in FORMS:
            self.refused(octets[:-1])
            self.refused(octets[:-1] + [octets[-1] | 0x80])

    def test_above_what_is_allowed(self):
        for number, octets in FORMS:
            self.assertEqual(Reader(octets).take_short(number), number)
            self.refused(octets, number - 1)

    def test_ten_octets_at_the_most(self):
        ten = [0x80] * 9 + [1]
        self.assertEqual(Reader(ten).take_short(2 ** 70), 2 ** 63)
        self.refused(ten)
        self.refused([0x80] * 10 + [1], 2 ** 80)
