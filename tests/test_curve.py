import unittest

from keysgoon.curve import public_key, x25519
from tests.helper import A0, LOW_ORDER, ZEROS, row


class X25519(unittest.TestCase):
    """RFC 7748, sections 5.2 and 6.1."""

    def test_two_examples(self):
        self.assertEqual(
            x25519(
                row("a546e36bf0527c9d3b16154b82465edd62144c0ac1fc5a18506a2244ba449ac4"),
                row("e6db6867583030db3594c1a424b15f7c726624ec26b3353b10a903a6d0ab1c4c"),
            ),
            row("c3da55379de9c6908e94ea4df28d084f32eccf03491c71f754b4075577a28552"),
        )
        # This public key has its highest bit set, which is not to count.
        self.assertEqual(
            x25519(
                row("4b66e9d4d1b4673c5ad22691957d6af5c11b6421e0ea01d42ca4169e7918ba0d"),
                row("e5210f12786811d3f4b7959d0538ae2c31dbe7106fc03c3efc4cd549c715a493"),
            ),
            row("95cbde9476e8907d7aade45cb4b873f88b595a68799fa152e6f8f7647aac7957"),
        )

    def test_a_thousand_times(self):
        secret = [9] + [0] * 31
        public = secret
        for times in range(1, 1001):
            result = x25519(secret, public)
            public = secret
            secret = result
            if times == 1:
                self.assertEqual(
                    secret, row("422c8e7a6227d7bca1350b3e2bb7279f7897b87bb6854b783c60e80311ae3079")
                )
        self.assertEqual(secret, row("684cf59ba83309552800ef566f2f4d3c1c3887c49360e3875f2eb94d99532c51"))

    def test_two_agree(self):
        alice = row("77076d0a7318a57d3c16c17251b26645df4c2f87ebc0992ab177fba51db92c2a")
        bob = row("5dab087e624a8a4b79e17f8b83800ee66f3bb1292618b6fd1c2f8b27ff88e0eb")
        alice_public = row("8520f0098930a754748b7ddcb43ef75a0dbf3a0d26381af4eba4a98eaa9b4e6a")
        bob_public = row("de9edb7d7b7dc1b4d35b61c2ece435373f8343c85b78674dadfc7e146f882b4f")
        agreed = row("4a5d9d5ba4ce2de1728e3bf480350f25e07e21c947d19e3376f09b3c1e161742")
        self.assertEqual(public_key(alice), alice_public)
        self.assertEqual(public_key(bob), bob_public)
        self.assertEqual(x25519(alice, bob_public), agreed)
        self.assertEqual(x25519(bob, alice_public), agreed)

    def test_low_order_gives_zeros(self):
        for public in LOW_ORDER:
            self.assertEqual(x25519(A0, public), ZEROS)
            self.assertEqual(x25519(A0, public[:31] + [public[31] | 128]), ZEROS)

    def test_at_or_above_the_prime(self):
        # The prime and 9 more is 9.
        self.assertEqual(x25519(A0, [246] + [255] * 30 + [127]), public_key(A0))

    def test_bits_of_a_secret_that_do_not_count(self):
        expected = public_key(A0)
        self.assertEqual(public_key([A0[0] ^ 7] + A0[1:]), expected)
        self.assertEqual(public_key(A0[:31] + [A0[31] ^ 128]), expected)
        self.assertEqual(public_key(A0[:31] + [A0[31] ^ 64]), expected)
        self.assertNotEqual(public_key([A0[0] ^ 8] + A0[1:]), expected)
