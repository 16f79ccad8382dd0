"""SHA-1 and SHA-256: the examples of FIPS 180-4, and lengths round a block's end."""

import hashlib
import unittest

from sealedbook.digests import sha1, sha256

TWO_BLOCKS = b"abcdbcdecdefdefgefghfghighijhijkijkljklmklmnlmnomnopnopq"
MILLION = b"a" * 1000000
LENGTHS = list(range(52, 68)) + [118, 119, 120, 127, 128, 129, 4095, 4096, 4097]


def sample(length):
    return [(17 * k + length) % 256 for k in range(length)]


class Sha1(unittest.TestCase):
    def check(self, octets, digest):
        self.assertEqual(bytes(sha1(list(octets))).hex(), digest)

    def test_examples(self):
        self.check(b"abc", "a9993e364706816aba3e25717850c26c9cd0d89d")
        self.check(TWO_BLOCKS, "84983e441c3bd26ebaae4aa1f95129e5e54670f1")

    def test_no_octets(self):
        self.check(b"", "da39a3ee5e6b4b0d3255bfef95601890afd80709")

    def test_a_million_octets(self):
        self.check(MILLION, "34aa973cd4c4daa4f61eeb2bdbad27316534016f")

    def test_lengths_round_a_blocks_end(self):
        for length in LENGTHS:
            with self.subTest(length=length):
                self.check(sample(length), hashlib.sha1(bytes(sample(length))).hexdigest())

    def test_every_short_length(self):
        for length in range(52):
            self.check([255] * length, hashlib.sha1(bytes([255] * length)).hexdigest())

    def test_what_is_handed_in_stays(self):
        octets = [1, 2, 3]
        sha1(octets)
        self.assertEqual(octets, [1, 2, 3])


class Sha256(unittest.TestCase):
    def check(self, octets, digest):
        self.assertEqual(bytes(sha256(list(octets))).hex(), digest)

    def test_examples(self):
        self.check(b"abc", "ba7816bf8f01cfea414140de5dae2223b00361a396177a9cb410ff61f20015ad")
        self.check(TWO_BLOCKS, "248d6a61d20638b8e5c026930c3e6039a33ce45964ff2167f6ecedd419db06c1")
        self.check(b"", "e3b0c44298fc1c149afbf4c8996fb92427ae41e4649b934ca495991b7852b855")

    def test_a_million_octets(self):
        self.check(MILLION, "cdc76e5c9914fb9281a1c7e284d73e67f1809a48a497200e046d39ccc7112cd0")

    def test_lengths_round_a_blocks_end(self):
        for length in LENGTHS + [8191, 8192]:
            with self.subTest(length=length):
                self.check(sample(length), hashlib.sha256(bytes(sample(length))).hexdigest())

    def test_what_is_handed_in_stays(self):
        octets = [1, 2, 3]
        sha256(octets)
        self.assertEqual(octets, [1, 2, 3])
