"""SHA-256: the examples of FIPS 180-4, and lengths round a block's end."""

import hashlib
import unittest

from sealedbook.digests import sha256

TWO_BLOCKS = "abcdbcdecdefdefgefghfghighijhijkijkljklmklmnlmnomnopnopq"


class Sha256(unittest.TestCase):
    def check(self, octets, digest):
        self.assertEqual(bytes(sha256(list(octets))).hex(), digest)

    def test_examples(self):
        self.check(b"abc", "ba7816bf8f01cfea414140de5dae2223b00361a396177a9cb410ff61f20015ad")
        self.check(TWO_BLOCKS.encode(), "248d6a61d20638b8e5c026930c3e6039a33ce45964ff2167f6ecedd419db06c1")
        self.check(b"", "e3b0c44298fc1c149afbf4c8996fb92427ae41e4649b934ca495991b7852b855")

    def test_a_million_octets(self):
        self.check(b"a" * 1000000, "cdc76e5c9914fb9281a1c7e284d73e67f1809a48a497200e046d39ccc7112cd0")

    def test_lengths_round_a_blocks_end(self):
        for length in list(range(52, 68)) + [118, 119, 120, 127, 128, 129, 8191, 8192]:
            octets = [(17 * k + length) % 256 for k in range(length)]
            with self.subTest(length=length):
                self.check(octets, hashlib.sha256(bytes(octets)).hexdigest())

    def test_what_is_handed_in_stays(self):
        octets = [1, 2, 3]
        sha256(octets)
        self.assertEqual(octets, [1, 2, 3])
