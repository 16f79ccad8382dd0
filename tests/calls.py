"""Calls as the interface writes them, and its answers taken apart."""

from sealedbook.book import answers

from tests.reference import KEY, SALT


def call(number, *numbers):
    return [number, len(numbers), *numbers, 0]


def start(key=KEY, salt=SALT):
    return call(1, *key, *salt)


def put(time, blob=(), n=None):
    return call(2, time, len(blob) if n is None else n, *blob)


def seal():
    return call(3)


def image():
    return call(4)


def load(octets=(), n=None):
    return call(5, len(octets) if n is None else n, *octets)


def find(lo, hi):
    return call(6, lo, hi)


def get(entry):
    return call(7, entry)


def name(blob):
    return call(8, blob)


def look(octets):
    return call(9, *octets)


def head():
    return call(10)


def sums():
    return call(11)


def digest(how, octets=(), n=None):
    return call(12, how, len(octets) if n is None else n, *octets)


def apart(told):
    """The answers of each call, in a list of lists."""
    rows = []
    place = 0
    while place < len(told):
        count = told[place]
        rows.append(told[place + 1:place + 1 + count])
        assert len(rows[-1]) == count
        place += 1 + count
    return rows


def run(*calls):
    return apart(answers([x for one in calls for x in one]))


def last(*calls):
    return run(*calls)[-1]
