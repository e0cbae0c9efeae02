import hashlib
import unittest

from keysgoon.digest import sha256


class Sha256(unittest.TestCase):
    def check(self, message, expected):
        self.assertEqual(bytes(sha256(list(message))).hex(), expected)

    def test_published_examples(self):
        self.check(b"", "e3b0c44298fc1c149afbf4c8996fb92427ae41e4649b934ca495991b7852b855")
        self.check(b"abc", "ba7816bf8f01cfea414140de5dae2223b00361a396177a9cb410ff61f20015ad")
        self.check(
            b"abcdbcdecdefdefgefghfghighijhijkijkljklmklmnlmnomnopnopq",
            "248d6a61d20638b8e5c026930c3e6039a33ce45964ff2167f6ecedd419db06c1",
        )
        self.check(
            b"abcdefghbcdefghicdefghijdefghijkefghijklfghijklmghijklmn"
            b"hijklmnoijklmnopjklmnopqklmnopqrlmnopqrsmnopqrstnopqrstu",
            "cf5b16a778af8380036ce59e7b0492370b249b11e8f07a51afac45037afee9d1",
        )

    def test_a_million_letters(self):
        self.check(b"a" * 1000000, "cdc76e5c9914fb9281a1c7e284d73e67f1809a48a497200e046d39ccc7112cd0")

    def test_every_length_around_the_blocks(self):
        for size in range(200):
            message = bytes((5 * k + size) % 256 for k in range(size))
            self.check(message, hashlib.sha256(message).hexdigest())

    def test_the_message_is_not_changed(self):
        message = [1, 2, 3]
        sha256(message)
        self.assertEqual(message, [1, 2, 3])
