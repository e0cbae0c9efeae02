import hashlib
import unittest

from keysgoon.gcm import sealed, unsealed
from keysgoon.refusals import NotRight
from tests.helper import row

TEXT = (
    "d9313225f88406e5a55909c5aff5269a86a7a9531534f7da2e4c303d8a318a72"
    "1c3c0c95956809532fcf0e2449a6b525b16aedf5aa0de657ba637b391aafd255"
)
COVERED = (
    "522dc1f099567d07f47f37a32a84427d643a8cdcbfe5c0c97598a2bd2555d1aa"
    "8cb08e48590dbb3da7b08b1056828838c5f61e6393ba7a0abcc9f662898015ad"
)
FE = "feffe9928665731c6d6a8f9467308308" * 2
CAFE = "cafebabefacedbaddecaf888"

# Key, nonce, additional data, text, what is sealed: test cases 13 to 16 of GCM's own specification,
# and two examples of the validation system for SP 800-38D.
PUBLISHED = (
    ("00" * 32, "00" * 12, "", "", "530f8afbc74536b9a963b4f1c4cb738b"),
    ("00" * 32, "00" * 12, "", "00" * 16, "cea7403d4d606b6e074ec5d3baf39d18d0d1c8a799996bf0265b98b5d48ab919"),
    (FE, CAFE, "", TEXT, COVERED + "b094dac5d93471bdec1a502270e3cc6c"),
    (
        FE, CAFE, "feedfacedeadbeeffeedfacedeadbeefabaddad2", TEXT[:120],
        COVERED[:120] + "76fc6ece0f4e1768cddf8853bb2d551b",
    ),
    (
        "b52c505a37d78eda5dd34f20c22540ea1b58963cf8e5bf8ffa85f9f2492505b4", "516c33929df5a3284ff463d7", "", "",
        "bdc1ac884d332457a1d2664f168c76f0",
    ),
    (
        "78dc4e0aaf52d935c3c01eea57428f00ca1fd475f5da86a49c8dd73d68c8e223", "d79cf22d504cc793c3fb6c8a",
        "b96baa8c1c75a671bfb2d08d06be5f36", "", "3e5d486aa2e30b22e040b85723a06e76",
    ),
)

# How long the text and the additional data are, and what another AES-256-GCM seals of them
# under KEY and NONCE (see text_of and beside_of).
SIZES = (
    (0, 1, "3e1dc5e37ea8740fc0fed6b4cd106309"),
    (0, 15, "3cc23c52a85fc83e59840411dcbb7137"),
    (0, 33, "3fd9d63ba04a58accdededbffedd8524"),
    (1, 0, "9e6413211e39eec75f4eb00f2245ff2954"),
    (15, 0, "9ea3375aa069eadba453d986c3c6ebdf55dcf8e50d2d3913d0fef2e6aa9880"),
    (17, 0, "9ea3375aa069eadba453d986c3c6ebd898f28ccf0dafeebefd8b8056c9c41edf78"),
    (1, 1, "9ea40ac319f2d089400ab90bfbec6557a3"),
    (15, 16, "9ea3375aa069eadba453d986c3c6eb8dd380c21e7090b5f67951da3d1d01ae"),
    (16, 15, "9ea3375aa069eadba453d986c3c6ebd824263a9f87eb334ca69e07a554ad3d50"),
    (16, 32, "9ea3375aa069eadba453d986c3c6ebd8e313ceecdfac90b90cae227b1f7cb684"),
    (31, 17, "9ea3375aa069eadba453d986c3c6ebd8986f4216a0974b876ea25eb5962092529fd217219e96f69060aa2321da47b6"),
    (32, 0, "9ea3375aa069eadba453d986c3c6ebd8986f4216a0974b876ea25eb59620923ad3f156429d15ccbcf77fe00c7f9092ca"),
    (32, 20, "9ea3375aa069eadba453d986c3c6ebd8986f4216a0974b876ea25eb59620923a3b70e4fe3d993e9b8e5c29f973fcb8a8"),
    (
        33, 32,
        "9ea3375aa069eadba453d986c3c6ebd8986f4216a0974b876ea25eb59620923a5107016abd1d0ed63d0df6fbdab14dfd9e",
    ),
)
KEY = list(range(100, 132))
NONCE = list(range(12))


def text_of(size):
    return [(7 * k + 1) % 256 for k in range(size)]


def beside_of(size):
    return [(11 * k + 5) % 256 for k in range(size)]


class Gcm(unittest.TestCase):
    def test_published_examples(self):
        for key, nonce, beside, text, expected in PUBLISHED:
            self.assertEqual(sealed(row(key), row(nonce), row(beside), row(text)), row(expected))
            self.assertEqual(unsealed(row(key), row(nonce), row(beside), row(expected)), row(text))

    def test_sizes(self):
        for text_size, beside_size, expected in SIZES:
            text = text_of(text_size)
            beside = beside_of(beside_size)
            self.assertEqual(sealed(KEY, NONCE, beside, text), row(expected))
            self.assertEqual(unsealed(KEY, NONCE, beside, row(expected)), text)

    def test_more_than_256_blocks(self):
        result = sealed(KEY, NONCE, beside_of(4096), text_of(4200))
        self.assertEqual(
            hashlib.sha256(bytes(result)).hexdigest(),
            "b34101d2fe434bea8312cc416117f89deebce0419e279f9fe5b0f14b78ef63df",
        )

    def test_every_changed_byte_is_seen(self):
        beside = beside_of(20)
        whole = sealed(KEY, NONCE, beside, text_of(19))
        for place in range(len(whole)):
            changed = whole[:place] + [whole[place] ^ 1] + whole[place + 1:]
            self.assertRaises(NotRight, unsealed, KEY, NONCE, beside, changed)
        for place in range(len(beside)):
            changed = beside[:place] + [beside[place] ^ 128] + beside[place + 1:]
            self.assertRaises(NotRight, unsealed, KEY, NONCE, changed, whole)

    def test_other_keys_nonces_and_lengths_are_seen(self):
        whole = sealed(KEY, NONCE, [0], [0])
        self.assertRaises(NotRight, unsealed, KEY[:31] + [0], NONCE, [0], whole)
        self.assertRaises(NotRight, unsealed, KEY, NONCE[:11] + [0], [0], whole)
        self.assertRaises(NotRight, unsealed, KEY, NONCE, [0, 0], whole)
        self.assertRaises(NotRight, unsealed, KEY, NONCE, [], whole)
        self.assertRaises(NotRight, unsealed, KEY, NONCE, [0], whole[1:])
