"""A second way to write pages, apart from the package: what the tests hold the program against."""

import functools
import hashlib

KEY = list(range(0x20, 0x30))
SALT = [7 * k % 256 for k in range(16)]
LAST = 2 ** 63 - 1


def sha256(octets):
    return list(hashlib.sha256(bytes(octets)).digest())


def sha1(octets):
    return list(hashlib.sha1(bytes(octets)).digest())


@functools.lru_cache(maxsize=None)
def times(a, b):
    product = 0
    while b:
        if b & 1:
            product ^= a
        a <<= 1
        if a & 0x100:
            a ^= 0x11B
        b >>= 1
    return product


def sbox_octet(x):
    inverse = next((y for y in range(256) if times(x, y) == 1), 0)
    octet = 0x63
    for turn in range(5):
        octet ^= (inverse << turn | inverse >> (8 - turn)) & 0xFF
    return octet


SBOX = [sbox_octet(x) for x in range(256)]


@functools.lru_cache(maxsize=None)
def key_words(key):
    words = [list(key[k:k + 4]) for k in range(0, 16, 4)]
    power = 1
    for k in range(4, 44):
        word = list(words[-1])
        if k % 4 == 0:
            word = [SBOX[x] for x in word[1:] + word[:1]]
            word[0] ^= power
            power = times(power, 2)
        words.append([x ^ y for x, y in zip(words[k - 4], word)])
    return words


def aes(key, block):
    """FIPS 197's Cipher, with the state as rows and the matrix written out."""
    words = key_words(tuple(key))
    matrix = [[2, 3, 1, 1], [1, 2, 3, 1], [1, 1, 2, 3], [3, 1, 1, 2]]
    state = [[block[4 * c + r] ^ words[c][r] for c in range(4)] for r in range(4)]
    for step in range(1, 11):
        state = [[SBOX[state[r][(c + r) % 4]] for c in range(4)] for r in range(4)]
        if step < 10:
            mixed = [[0] * 4 for r in range(4)]
            for r in range(4):
                for c in range(4):
                    for k in range(4):
                        mixed[r][c] ^= times(matrix[r][k], state[k][c])
            state = mixed
        state = [[state[r][c] ^ words[4 * step + c][r] for c in range(4)] for r in range(4)]
    return [state[r][c] for c in range(4) for r in range(4)]


def short(number):
    octets = []
    while True:
        octets.append(number & 0x7F)
        number >>= 7
        if not number:
            return octets
        octets[-1] |= 0x80


def fill(octets):
    n = 16 - len(octets) % 16
    return octets + [n] * n


def anew(blob):
    """How a text tells a blob that no entry before has."""
    return [0] + short(len(blob)) + list(blob)


def page(key, number, head, text, size=None):
    """A page with any text at all, sealed as it should be, and the head behind it."""
    count = len(text) // 16 if size is None else size
    told = list(count.to_bytes(2, "little"))
    link = aes(key, list(number.to_bytes(16, "little")))
    encrypted = []
    for k in range(0, len(text), 16):
        link = aes(key, [x ^ y for x, y in zip(text[k:k + 16], link)])
        encrypted += link
    digest = sha256(head + told + encrypted)
    return told + encrypted + digest, digest


def pages(texts, key=KEY, salt=SALT):
    """Pages of the texts, whatever these are."""
    head = sha256(salt)
    written = []
    for number, text in enumerate(texts):
        octets, head = page(key, number, head, text)
        written.append(octets)
    return written


def joined(rows):
    return [x for row in rows for x in row]


def texts_of(groups):
    """The right texts of groups of entries (time, blob), a group a page."""
    numbers = {}
    before = 0
    texts = []
    for group in groups:
        text = short(len(group))
        for time, blob in group:
            text += short(time - before)
            before = time
            blob = tuple(blob)
            if blob in numbers:
                text += short(numbers[blob] + 1)
            else:
                text += anew(blob)
                numbers[blob] = len(numbers)
        texts.append(fill(text))
    return texts


def image_of(groups, key=KEY, salt=SALT):
    return joined(pages(texts_of(groups), key, salt))


def head_of(groups, key=KEY, salt=SALT):
    written = pages(texts_of(groups), key, salt)
    return written[-1][-32:] if written else sha256(salt)
