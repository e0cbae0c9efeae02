import unittest

from keysgoon.aes import encrypted, round_keys_of
from tests.helper import row

KEY = row("603deb1015ca71be2b73aef0857d77811f352c073b6108d72d9810a30914dff4")


class Aes256(unittest.TestCase):
    """FIPS 197, appendices A.3 and C.3; SP 800-38A, F.1.5."""

    def test_key_expansion(self):
        keys = round_keys_of(KEY)
        self.assertEqual(len(keys), 15)
        self.assertEqual(keys[0] + keys[1], KEY)
        self.assertEqual(keys[2], row("9ba354118e6925afa51a8b5f2067fcde"))
        self.assertEqual(keys[3], row("a8b09c1a93d194cdbe49846eb75d5b9a"))
        self.assertEqual(keys[14], row("fe4890d1e6188d0b046df344706c631e"))

    def test_example_vector(self):
        keys = round_keys_of(list(range(32)))
        block = row("00112233445566778899aabbccddeeff")
        self.assertEqual(encrypted(keys, block), row("8ea2b7ca516745bfeafc49904b496089"))

    def test_four_blocks(self):
        keys = round_keys_of(KEY)
        for block, expected in (
            ("6bc1bee22e409f96e93d7e117393172a", "f3eed1bdb5d2a03c064b5a7e3db181f8"),
            ("ae2d8a571e03ac9c9eb76fac45af8e51", "591ccb10d410ed26dc5ba74a31362870"),
            ("30c81c46a35ce411e5fbc1191a0a52ef", "b6ed21b99ca6f4f9f153e7b1beafed1d"),
            ("f69f2445df4f9b17ad2b417be66c3710", "23304b7a39f9f3ff067d8d8f9e24ecc7"),
        ):
            self.assertEqual(encrypted(keys, row(block)), row(expected))
