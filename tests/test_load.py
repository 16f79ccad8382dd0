"""Point 5: load, and when a page is wrong."""

import unittest

from sealedbook.contents import Book
from sealedbook.pages import read_image

from tests.calls import find, image, last, load, put, run, seal, start
from tests.reference import KEY, LAST, SALT, anew, fill, image_of, joined, page, pages, sha256, short, texts_of

GROUPS = [[(5, (1,)), (6, (2, 2))], [(6, (1,))], [(900, ()), (901, (3,) * 200), (901, ())]]


def blobs(count, length=2):
    return [(k // 256, k % 256) + (0,) * (length - 2) for k in range(count)]


class Taken(unittest.TestCase):
    def check(self, groups):
        octets = image_of(groups)
        told = run(start(), load(octets), image(), find(0, LAST))
        total = sum(len(group) for group in groups)
        self.assertEqual(told[1:], [[len(groups)], [len(octets)] + octets, [total] + list(range(total))])

    def test_with_no_octets(self):
        self.assertEqual(run(start(), load(), image(), find(0, LAST)), [[0], [0], [0], [0]])

    def test_written_out_again(self):
        self.check(GROUPS[:1])
        self.check(GROUPS)
        self.check([[(LAST, ())]])
        self.check([[(0, ())], [(LAST, range(256))], [(LAST, ())]])

    def test_texts_of_every_length_by_16(self):
        for length in range(0, 34):
            self.check([[(1, range(length))], [(2, range(length))]])

    def test_an_image_of_its_own(self):
        calls = (start(), put(5, (1,)), put(6, (2,)), seal(), put(6, (1,)), seal())
        octets = last(*calls, image())[1:]
        self.assertEqual(run(*calls, put(7), load(octets), image())[-2:], [[2], [len(octets)] + octets])

    def test_all_rooms_full(self):
        self.check([[(k, ())] for k in range(64)])
        self.check([[(0, (1,))] * 512])
        self.check([[(0, (1,))] * 500, [(0, (1,))] * 12])
        self.check([[(0, blob) for blob in blobs(256)]])
        self.check([[(0, blob) for blob in blobs(64, 512)], [(0, ())]])

    def test_what_it_had_is_gone(self):
        told = run(start(), put(999, (4,)), seal(), put(1000, (5,)), load(image_of(GROUPS[:2])),
                   find(0, LAST), seal(), put(6, (4,)), put(6, (2, 2)))
        self.assertEqual(told[4:], [[2], [3, 0, 1, 2], [-4], [3, 2], [4, 1]])

    def test_with_no_octets_what_it_had_is_gone(self):
        told = run(start(), put(999, (4,)), seal(), load(), image(), find(0, LAST), put(0, (5,)), seal(), image())
        self.assertEqual(told[3:8], [[0], [0], [0], [0, 0], [0]])
        self.assertEqual(told[8][1:], image_of([[(0, (5,))]]))

    def test_put_and_seal_go_on_behind_it(self):
        told = run(start(), load(image_of(GROUPS[:2])), put(5), put(900, ()), put(901, (3,) * 200), put(901, ()),
                   seal(), image())
        self.assertEqual(told[1:7], [[2], [-3], [3, 2], [4, 3], [5, 2], [2]])
        self.assertEqual(told[7][1:], image_of(GROUPS))

    def test_a_second_load(self):
        told = run(start(), load(image_of(GROUPS)), load(image_of(GROUPS[:1])), find(0, LAST), load(image_of(GROUPS)))
        self.assertEqual(told[1:], [[3], [1], [2, 0, 1], [3]])


    def test_entries_have_their_own_blobs(self):
        groups = GROUPS + [[(902, (2, 2)), (903, (3,) * 200), (904, (1,)), (904, ())]]
        book = Book(KEY, SALT)
        read_image(book, image_of(groups))
        wanted = [(time, tuple(blob)) for group in groups for time, blob in group]
        self.assertEqual([(entry.time, book.blobs[entry.blob]) for entry in book.entries], wanted)


class NotAsTold(unittest.TestCase):
    def test_n(self):
        for n in (-1, 65537, LAST, -LAST - 1):
            self.assertEqual(last(start(), load(n=n)), [-2])

    def test_n_of_65536(self):
        self.assertEqual(last(start(), load([0] * 65536)), [-100])

    def test_nothing_has_changed(self):
        told = run(start(), put(1), seal(), put(2), load(n=-1), find(0, 9), seal(), image())
        self.assertEqual(told[4:7], [[-2], [2, 0, 1], [1]])
        self.assertEqual(told[7][1:], image_of([[(1, ())], [(2, ())]]))


class Wrong(unittest.TestCase):
    """Each wrong page is tried as the first page and behind GROUPS, with right pages behind it."""

    def refused(self, octets, number, key=KEY, salt=SALT):
        ahead = (start(key, salt), put(1, (8,)), seal(), put(2, (9,)))
        behind = (find(0, LAST), put(2, (8,)), seal(), image())
        told = run(*ahead, load(octets), *behind)
        self.assertEqual(told[4], [-100 - number])
        self.assertEqual(told[5:], run(*ahead, *behind)[4:])

    def refused_text(self, text, groups=GROUPS):
        """The text, sealed rightly, behind the groups' pages."""
        behind = texts_of(groups + [[(LAST, (77,))]])[-1]
        self.refused(joined(pages(texts_of(groups) + [text])), len(groups))
        self.refused(joined(pages(texts_of(groups) + [text, behind])), len(groups))

    def refused_anywhere(self, text):
        self.refused_text(text, [])
        self.refused_text(text)

    def taken_anywhere(self, text):
        """That a text is right: so the wrong one beside it is wrong by what it is tried for."""
        for groups in ([], GROUPS):
            octets = joined(pages(texts_of(groups) + [text]))
            self.assertEqual(run(start(), load(octets), image())[1:], [[len(groups) + 1], [len(octets)] + octets])

    def test_cut_off(self):
        rows = pages(texts_of(GROUPS))
        for number, row in enumerate(rows):
            for length in (1, 2, 3, 17, 18, 19, len(row) - 33, len(row) - 32, len(row) - 31, len(row) - 1):
                self.refused(joined(rows[:number]) + row[:length], number)

    def test_something_behind(self):
        self.refused(image_of(GROUPS) + [0], 3)
        self.refused(image_of(GROUPS) + [1, 0], 3)

    def test_length_0(self):
        for count in (0, 3):
            texts = texts_of(GROUPS)[:count]
            head = pages(texts)[-1][-32:] if texts else sha256(SALT)
            octets, digest = page(KEY, count, head, [])
            self.assertEqual(octets[:2], [0, 0])
            self.refused(joined(pages(texts)) + octets, count)

    def test_another_length(self):
        head = sha256(SALT)
        text = texts_of(GROUPS)[0]
        for size in (2, 256, 257, 65535):
            octets, digest = page(KEY, 0, head, text, size)
            self.refused(octets, 0)
            self.refused(octets + [0] * 40, 0)

    def test_the_65th(self):
        groups = [[(k, ())] for k in range(66)]
        self.refused(image_of(groups[:65]), 64)
        self.refused(image_of(groups), 64)
        self.refused(image_of(groups[:64]) + [0], 64)

    def test_another_digest(self):
        rows = pages(texts_of(GROUPS))
        starts = [0, len(rows[0]), len(rows[0]) + len(rows[1])]
        for number, start_of_page in enumerate(starts):
            for place in (2, 9, 17, len(rows[number]) - 32, len(rows[number]) - 16, len(rows[number]) - 1):
                for bit in (1, 128):
                    octets = joined(rows)
                    octets[start_of_page + place] ^= bit
                    self.refused(octets, number)

    def test_pages_in_another_order(self):
        rows = pages(texts_of(GROUPS))
        self.refused(rows[1] + rows[0] + rows[2], 0)
        self.refused(rows[0] + rows[2] + rows[1], 1)
        self.refused(rows[0] + rows[0], 1)
        self.refused(rows[1], 0)

    def test_another_head(self):
        text = texts_of(GROUPS)[0]
        self.refused(page(KEY, 0, SALT, text)[0], 0)
        self.refused(page(KEY, 0, [], text)[0], 0)

    def test_another_page_number(self):
        self.refused(page(KEY, 1, sha256(SALT), texts_of(GROUPS)[0])[0], 0)

    def test_another_key_or_salt(self):
        octets = image_of(GROUPS)
        self.refused(octets, 0, [0] * 16, SALT)
        self.refused(octets, 0, KEY, [0] * 16)

    def test_no_entries(self):
        self.refused_anywhere(fill([0]))
        self.refused_anywhere([16] * 16)

    def test_513_entries(self):
        text = short(513) + [1] + anew((50,)) + [0, 1] * 512
        self.refused_text(fill(text), [])

    def test_count_above_512(self):
        for count in (513, 16384, 2 ** 63, 2 ** 64):
            self.refused_anywhere(fill(short(count) + [1] + anew((50,))))

    def test_other_counts(self):
        entry = [1] + anew((50,))
        self.taken_anywhere(fill([1] + entry))
        self.refused_anywhere(fill([2] + entry))
        self.refused_anywhere(fill([1] + entry + [0, 1]))
        self.taken_anywhere(fill([2] + entry + [0, 1]))

    def test_numbers_longer_than_needed(self):
        right = [1, 3, 0, 1, 50]
        self.taken_anywhere(fill(right))
        for place in range(4):
            longer = right[:place] + [right[place] + 0x80, 0] + right[place + 1:]
            self.refused_anywhere(fill(longer))
        self.refused_anywhere(fill([1, 3] + anew((50,))[:1] + [0x81, 0x80, 0, 50]))

    def test_a_blobs_number_longer_than_needed(self):
        self.taken_anywhere(fill([2, 1] + anew((50,)) + [1, 1]))
        self.refused_anywhere(fill([2, 1] + anew((50,)) + [1, 0x81, 0]))

    def test_times_from_2_to_63(self):
        blob = anew((50,))
        self.taken_anywhere(fill([1] + short(LAST - 901) + blob))
        self.refused_text(fill([1] + short(LAST - 900) + blob))
        self.refused_text(fill([1] + short(LAST) + blob))
        self.refused_anywhere(fill([1] + short(LAST + 1) + blob))
        self.refused_anywhere(fill([1] + short(2 ** 64 + 3) + blob))
        self.refused_anywhere(fill([1] + short(2 ** 70 + 3) + blob))
        self.refused_anywhere(fill([2] + short(LAST - 901) + blob + short(902) + [1]))
        self.taken_anywhere(fill([2] + short(LAST - 901) + blob + [0, 1]))

    def test_lengths_above_512(self):
        self.taken_anywhere(fill([1, 1] + anew([50] * 512)))
        self.refused_anywhere(fill([1, 1] + anew([50] * 513)))
        self.refused_anywhere(fill([1, 1] + anew([50] * 700)))

    def test_blob_numbers_that_there_are_not(self):
        self.refused_text(fill([1, 0, 1]), [])
        self.refused_text(fill([1, 0, 2]), [])
        self.refused_text(fill([2, 1] + anew((50,)) + [0, 2]), [])
        self.refused_text(fill([1, 0, 5]))
        self.refused_text(fill([1, 0] + short(2 ** 64 + 1)))
        octets = joined(pages(texts_of(GROUPS) + [fill([1, 0, 4])]))
        self.assertEqual(run(start(), load(octets), put(901, (3,) * 200))[1:], [[4], [7, 3]])

    def test_a_blob_told_anew(self):
        self.refused_anywhere(fill([2, 1] + anew((50,)) + [0] + anew((50,))))
        self.refused_anywhere(fill([2, 1] + anew(()) + [0] + anew(())))
        for blob in ((1,), (2, 2), (), (3,) * 200):
            self.refused_text(fill([1, 0] + anew(blob)))

    def test_no_room_for_entries(self):
        many = [[(0, (1,))] * 511]
        right = fill([1, 0, 1])
        self.assertEqual(last(start(), load(joined(pages(texts_of(many) + [right])))), [2])
        self.refused_text(fill([2, 0, 1, 0, 1]), many)
        self.refused_text(right, [[(0, (1,))] * 512])

    def test_no_room_for_blobs(self):
        group = [(0, blob) for blob in blobs(256)]
        self.refused_text(texts_of([group + [(0, (1,))]])[0], [])
        self.refused_text(fill([1, 0] + anew((1,))), [group])
        self.refused_text(fill([1, 0] + anew(())), [group])
        self.assertEqual(last(start(), load(joined(pages(texts_of([group]) + [fill([1, 0, 1])])))), [2])

    def test_no_room_for_octets(self):
        group = [(0, blob) for blob in blobs(63, 512)]
        self.assertEqual(last(start(), load(joined(pages(texts_of([group]) + [fill([1, 0] + anew([9] * 512))])))), [2])
        full = group + [(0, (8,) * 511)]
        self.assertEqual(last(start(), load(joined(pages(texts_of([full]) + [fill([1, 0] + anew([9]))])))), [2])
        self.refused_text(fill([1, 0] + anew((9, 9))), [full])
        self.refused_text(texts_of([full + [(0, (9, 9))]])[0], [])

    def test_what_fills_it_up(self):
        text = [1, 3] + anew(range(40, 48))
        self.assertEqual(len(text), 12)
        self.taken_anywhere(text + [4] * 4)
        for wrong in ([4, 4, 4, 5], [5, 4, 4, 4], [0, 0, 0, 4], [0] * 4, [3, 3, 3, 4], [16] * 4, [20] * 20,
                      [4] * 20, [4] * 4 + [16] * 16):
            self.refused_anywhere(text + wrong)

    def test_a_whole_block_fills_it_up(self):
        text = [1, 3] + anew(range(40, 52))
        self.assertEqual(len(text), 16)
        self.taken_anywhere(text + [16] * 16)
        self.refused_anywhere(text)
        self.refused_anywhere(text + [15] * 16)
        self.refused_anywhere(text + [16] * 15 + [0])
        self.refused_anywhere(text + [32] * 32)

    def test_the_text_ends_too_soon(self):
        self.refused_anywhere([1, 3, 0, 13] + [9] * 12)
        self.refused_anywhere([1, 3, 0, 12] + [9] * 12)
        self.refused_anywhere([1] + [0x80] * 15)
        self.refused_anywhere([1, 3, 0, 11] + [9] * 11 + [0x80])
        self.refused_anywhere([2, 3, 0, 12] + [9] * 12)
        self.refused_anywhere([2, 3, 0, 11] + [9] * 11 + [0])
        self.taken_anywhere([1, 3, 0, 11] + [9] * 11 + [1])

    def test_the_first_wrong_page_is_told(self):
        texts = texts_of(GROUPS)
        self.refused(joined(pages([texts[0], [0] * 16, [0] * 16])), 1)
        self.refused(joined(pages([texts[0], texts[1], [0] * 16, texts[2]])), 2)
