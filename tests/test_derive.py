import unittest

from keysgoon.derive import derived, mac
from tests.helper import row


class Hmac(unittest.TestCase):
    """RFC 4231, test cases 1 to 4, 6 and 7."""

    def check(self, key, message, expected):
        self.assertEqual(bytes(mac(list(key), list(message))).hex(), expected)

    def test_short_keys(self):
        self.check(b"\x0b" * 20, b"Hi There", "b0344c61d8db38535ca8afceaf0bf12b881dc200c9833da726e9376c2e32cff7")
        self.check(
            b"Jefe", b"what do ya want for nothing?",
            "5bdcc146bf60754e6a042426089575c75a003f089d2739839dec58b964ec3843",
        )
        self.check(
            b"\xaa" * 20, b"\xdd" * 50, "773ea91e36800e46854db8ebd09181a72959098b3ef8c122d9635514ced565fe"
        )
        self.check(
            bytes(range(1, 26)), b"\xcd" * 50, "82558a389a443c0ea4cc819899f2083a85f0faa3e578f8077a2e3ff46729665b"
        )

    def test_keys_longer_than_a_block(self):
        self.check(
            b"\xaa" * 131, b"Test Using Larger Than Block-Size Key - Hash Key First",
            "60e431591ee0b67f0d8a26aacbf5b77f8e0bc6213728c5140546040f0ee37f54",
        )
        self.check(
            b"\xaa" * 131,
            b"This is a test using a larger than block-size key and a larger than block-size data. "
            b"The key needs to be hashed before being used by the HMAC algorithm.",
            "9b09ffa71b942fcb27635fbcd5b0e944bfdc63644f0713938a7f51535c3a35e2",
        )


class Hkdf(unittest.TestCase):
    """RFC 5869, appendices A.1 to A.3."""

    def check(self, salt, key, info, expected):
        self.assertEqual(derived(salt, key, info, len(expected) // 2), row(expected))

    def test_basic(self):
        self.check(
            row("000102030405060708090a0b0c"), [11] * 22, row("f0f1f2f3f4f5f6f7f8f9"),
            "3cb25f25faacd57a90434f64d0362f2a2d2d0a90cf1a5a4c5db02d56ecc4c5bf34007208d5b887185865",
        )

    def test_longer(self):
        self.check(
            list(range(0x60, 0xb0)), list(range(0x50)), list(range(0xb0, 0x100)),
            "b11e398dc80327a1c8e7f78c596a49344f012eda2d4efad8a050cc4c19afa97c59045a99cac7827271cb41c65e590e09"
            "da3275600c2f09b8367793a9aca3db71cc30c58179ec3e87c14c01d5c1f3434f1d87",
        )

    def test_no_salt_and_no_info(self):
        self.check(
            [], [11] * 22, [],
            "8da4e775a563c18f715f802a063c5a31b8a11f5c5ee1879ec3454e5f3c738d2d9d201395faa4b61a96c8",
        )
