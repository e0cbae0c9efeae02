"""What the tests share: calls as lists, answers taken apart, a partner whose letters can be made at will.

The partner's keys come from Python's own hashlib and hmac, so they don't hang on the program's.
"""

import hmac
import unittest

from keysgoon.curve import public_key, x25519
from keysgoon.ends import answers
from keysgoon.gcm import sealed

SECRET = list(range(32))
A0 = list(range(32, 64))
B0 = list(range(64, 96))
A1 = list(range(96, 128))
B1 = list(range(128, 160))
A2 = list(range(160, 192))
B2 = list(range(192, 224))
ZEROS = [0] * 32

# Every public key of low order, as far as 32 bytes can say them without the highest bit.
LOW_ORDER = [
    [0] * 32,
    [1] + [0] * 31,
    list(bytes.fromhex("e0eb7a7c3b41b8ae1656e3faf19fc46ada098deb9c32b1fd866205165f49b800")),
    list(bytes.fromhex("5f9c95bca3508c24b1d0b1559c83ef5b04445cc4581c8e86d8224eddd09f1157")),
    [236] + [255] * 30 + [127],
    [237] + [255] * 30 + [127],
    [238] + [255] * 30 + [127],
]


def row(text):
    return list(bytes.fromhex(text))


def counted(numbers):
    return [len(numbers)] + list(numbers)


def key_call(secret):
    return [0] + counted(secret)


def init_call(end, first, own, their, secret=SECRET):
    return [1, end, first] + counted(secret) + counted(own) + counted(their)


def write_call(end, text=b"", beside=b""):
    return [2, end] + counted(text) + counted(beside)


def read_call(end, letter, beside=b"", fresh=B1):
    return [3, end] + counted(letter) + counted(beside) + counted(fresh)


def told_call(end, what):
    return [4, end, what]


def forget_call(end):
    return [5, end]


def own_call(end):
    return [6, end]


def all_told(end):
    """The calls that tell all that an end tells of itself: its five numbers, and own's public key."""
    return [told_call(end, what) for what in range(5)] + [own_call(end)]


def ask(calls):
    """The answers to a list of calls, each a list of its own, without its count."""
    flat = answers([number for call in calls for number in call])
    parts = []
    while flat:
        parts.append(flat[1:1 + flat[0]])
        assert len(parts[-1]) == flat[0]
        flat = flat[1 + flat[0]:]
    return parts


def ends_there(calls):
    """The ends for which a dr_init among the calls has answered 0."""
    pairs = zip(calls, ask(calls))
    return sorted({call[1] for call, answer in pairs if call[0] == 1 and answer == [0]})


def without(parts, start, count):
    return parts[:start] + parts[start + count:]


def mac(key, message):
    return hmac.new(bytes(key), bytes(message), "sha256").digest()


def hkdf(salt, key, info):
    extracted = mac(salt, key)
    one = mac(extracted, info + b"\1")
    return one + mac(extracted, one + info + b"\2")


def made_letter(chain, public, before, number, text=b"", beside=b""):
    """The letter of this number on a chain that has just begun, whatever its head says of the chain before."""
    for _ in range(number):
        chain = mac(chain, b"\2")
    pair = hkdf(bytes(32), mac(chain, b"\1"), b"letter")
    head = list(public) + list(before.to_bytes(4, "big")) + list(number.to_bytes(4, "big"))
    return head + sealed(list(pair[:32]), list(pair[32:44]), list(beside) + head, list(text))


class Partner:
    """Who writes to an end: begun as one whose first is 1, with the end's public key."""

    def __init__(self, own, their, root=SECRET):
        self.root = bytes(root)
        self.turn(own, their)

    def go_on(self, agreed):
        both = hkdf(self.root, agreed, b"root")
        self.root = both[:32]
        return both[32:]

    def turn(self, own, their):
        self.own = own
        self.public = public_key(own)
        self.chain = self.go_on(x25519(own, their))

    def answered(self, fresh, own):
        """The end has read a letter of this chain, with that fresh: now a new own."""
        self.go_on(x25519(self.own, public_key(fresh)))
        self.turn(own, public_key(fresh))

    def letter(self, number, text=b"", beside=b"", before=0):
        return made_letter(self.chain, self.public, before, number, text, beside)


class EndsCase(unittest.TestCase):
    def check_refused(self, ahead, refused, number, behind):
        """Each of the calls in refused answers that number, and all other answers are as if it hadn't been asked."""
        whole = ask(ahead + refused + behind)
        start = len(ahead)
        self.assertEqual(whole[start:start + len(refused)], [[number]] * len(refused))
        self.assertEqual(without(whole, start, len(refused)), ask(ahead + behind))
        # In parts, since a list has at most 400 calls.
        for part in range(0, len(refused), 20):
            self.check_told_the_same(ahead, refused[part:part + 20], number)

    def check_told_the_same(self, ahead, refused, number):
        """Behind each of the refused calls, each end that is there tells of itself what it told before."""
        tell = [call for end in ends_there(ahead) for call in all_told(end)]
        result = ask(ahead + tell + [call for wrong in refused for call in [wrong] + tell])[len(ahead):]
        before = result[:len(tell)]
        self.assertEqual(result[len(tell):], ([[number]] + before) * len(refused))

    def check_told(self, calls, end, numbers):
        """Behind the calls, the end tells these: written, read, on the chain before, kept, a chain to write on."""
        result = ask(calls + [told_call(end, what) for what in range(5)])
        self.assertEqual(result[len(calls):], [[number] for number in numbers])

    def check_read(self, calls, text):
        """The last of the calls reads this text."""
        self.assertEqual(ask(calls)[-1], counted(text))
