"""AES with a key of 16 octets: the examples of FIPS 197, and decrypting."""

import unittest

from sealedbook.aes import SUBSTITUTE, SUBSTITUTE_BACK, decrypt_block, encrypt_block, expand_key

from tests.reference import SBOX, aes


def octets(text):
    return list(bytes.fromhex(text))


EXAMPLES = (
    ("2b7e151628aed2a6abf7158809cf4f3c", "3243f6a8885a308d313198a2e0370734", "3925841d02dc09fbdc118597196a0b32"),
    ("000102030405060708090a0b0c0d0e0f", "00112233445566778899aabbccddeeff", "69c4e0d86a7b0430d8cdb78070b4c55a"),
)


class Aes(unittest.TestCase):
    def test_examples(self):
        for key, plain, encrypted in EXAMPLES:
            round_keys = expand_key(octets(key))
            self.assertEqual(encrypt_block(round_keys, octets(plain)), octets(encrypted))
            self.assertEqual(decrypt_block(round_keys, octets(encrypted)), octets(plain))

    def test_key_expansion(self):
        round_keys = expand_key(octets("2b7e151628aed2a6abf7158809cf4f3c"))
        self.assertEqual(len(round_keys), 11)
        self.assertEqual(round_keys[0], octets("2b7e151628aed2a6abf7158809cf4f3c"))
        self.assertEqual(round_keys[1], octets("a0fafe1788542cb123a339392a6c7605"))
        self.assertEqual(round_keys[10], octets("d014f9a8c9ee2589e13f0cc8b6630ca6"))

    def test_tables(self):
        self.assertEqual(list(SUBSTITUTE), SBOX)
        self.assertEqual([SUBSTITUTE_BACK[x] for x in SUBSTITUTE], list(range(256)))

    def test_many_blocks(self):
        key = [0] * 16
        block = [255] * 16
        for step in range(60):
            encrypted = encrypt_block(expand_key(key), block)
            self.assertEqual(encrypted, aes(key, block))
            self.assertEqual(decrypt_block(expand_key(key), encrypted), block)
            key = block
            block = encrypted
