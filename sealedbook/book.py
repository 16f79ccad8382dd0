"""The calls on a sealed book, and their answers."""

from sealedbook.contents import Book, LAST_TIME, LONGEST_BLOB, MOST_PAGES
from sealedbook.digests import sha1, sha256
from sealedbook.pages import read_image, seal_page
from sealedbook.short import WrongPage

LONGEST_IMAGE = 65536
LONGEST_MESSAGE = 4096
KEY_SIZE = 16

# The calls' numbers.
START = 1
PUT = 2
SEAL = 3
IMAGE = 4
LOAD = 5
FIND = 6
GET = 7
NAME = 8
LOOK = 9
HEAD = 10
SUMS = 11
DIGEST = 12

# What digest is told to make.
BY_SHA1 = 0
BY_SHA256 = 1

# The refusals. An entry or a blob that isn't there is a number not as told, too.
NO_SUCH_NAME = -1
NOT_AS_TOLD = -2
TIME_FALLS = -3
NOTHING_TO_SEAL = -4
NO_ROOM = -5
NO_BOOK = -7
FIRST_PAGE_WRONG = -100


class UnknownCall(Exception):
    """A call's number that isn't among those above."""


class Desk:
    """Where the calls of one list find the book: None before the first one is there."""

    def __init__(self):
        self.book = None


def is_time(number):
    return 0 <= number <= LAST_TIME


def start_book(desk, numbers):
    desk.book = Book(numbers[:KEY_SIZE], numbers[KEY_SIZE:])
    return [0]


def put_entry(book, numbers):
    time = numbers[0]
    if not is_time(time) or not 0 <= numbers[1] <= LONGEST_BLOB:
        return [NOT_AS_TOLD]
    if time < book.last_time():
        return [TIME_FALLS]
    blob = tuple(numbers[2:])
    if not book.has_room(blob):
        return [NO_ROOM]
    book.add_entry(time, blob)
    return [len(book.entries) - 1, book.blob_numbers[blob]]


def seal_entries(book):
    if book.open_entries() == 0:
        return [NOTHING_TO_SEAL]
    if len(book.pages) == MOST_PAGES:
        return [NO_ROOM]
    seal_page(book)
    return [len(book.pages) - 1]


def write_image(book):
    octets = []
    for page in book.pages:
        octets.extend(page)
    return [len(octets)] + octets


def load_image(desk, numbers):
    if not 0 <= numbers[0] <= LONGEST_IMAGE:
        return [NOT_AS_TOLD]
    # Read into a book beside the old one, which has to stay as it was if a page is wrong.
    loaded = Book(desk.book.key, desk.book.salt)
    try:
        read_image(loaded, numbers[1:])
    except WrongPage:
        return [FIRST_PAGE_WRONG - len(loaded.pages)]
    desk.book = loaded
    return [len(loaded.pages)]


def find_entries(book, lo, hi):
    if not is_time(lo) or not is_time(hi):
        return [NOT_AS_TOLD]
    found = [number for number, entry in enumerate(book.entries) if lo <= entry.time <= hi]
    return [len(found)] + found


def get_entry(book, number):
    if not 0 <= number < len(book.entries):
        return [NOT_AS_TOLD]
    entry = book.entries[number]
    blob = book.blobs[entry.blob]
    return [len(blob), entry.time, entry.blob] + list(blob)


def name_blob(book, number):
    if not 0 <= number < len(book.blobs):
        return [NOT_AS_TOLD]
    return [0] + book.blob_names[number]


def look_for_blob(book, wanted):
    # Different blobs may have one name, so the first one has to be told.
    for number, name in enumerate(book.blob_names):
        if name == wanted:
            return [number]
    return [NO_SUCH_NAME]


def tell_head(book):
    return [0] + book.head


def tell_sums(book):
    return [0, len(book.entries), len(book.blobs), book.blob_octets, len(book.pages), book.open_entries()]


def make_digest(how, count, octets):
    if how not in (BY_SHA1, BY_SHA256) or not 0 <= count <= LONGEST_MESSAGE:
        return [NOT_AS_TOLD]
    return [0] + (sha1(octets) if how == BY_SHA1 else sha256(octets))


def answer_writing(desk, call, numbers):
    """The calls that write the book or its image, or read an image."""
    if call == PUT:
        return put_entry(desk.book, numbers)
    if call == SEAL:
        return seal_entries(desk.book)
    if call == IMAGE:
        return write_image(desk.book)
    return load_image(desk, numbers)


def answer_asking(book, call, numbers):
    """The calls that only ask what is in the book."""
    if call == FIND:
        return find_entries(book, numbers[0], numbers[1])
    if call == GET:
        return get_entry(book, numbers[0])
    if call == NAME:
        return name_blob(book, numbers[0])
    if call == LOOK:
        return look_for_blob(book, numbers)
    if call == HEAD:
        return tell_head(book)
    return tell_sums(book)


def answer(desk, call, numbers):
    """The numbers that one call answers; numbers are its own."""
    if not START <= call <= DIGEST:
        raise UnknownCall()
    if call == START:
        return start_book(desk, numbers)
    if call == DIGEST:
        return make_digest(numbers[0], numbers[1], numbers[2:])
    if desk.book is None:
        return [NO_BOOK]
    if call <= LOAD:
        return answer_writing(desk, call, numbers)
    return answer_asking(desk.book, call, numbers)


def answers(calls):
    """The answers of all calls in the list, each with how many numbers it has before it."""
    desk = Desk()
    told = []
    place = 0
    while place < len(calls):
        # Behind a call's numbers stands how many lists it has: no call has any.
        behind = place + 2 + calls[place + 1]
        numbers = answer(desk, calls[place], calls[place + 2:behind])
        told.append(len(numbers))
        told.extend(numbers)
        place = behind + 1
    return told
