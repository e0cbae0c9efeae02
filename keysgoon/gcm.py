"""AES-256 in GCM (SP 800-38D) with a nonce of 12 bytes and a tag of 16."""

from keysgoon.aes import encrypted, round_keys_of
from keysgoon.refusals import NotRight
from keysgoon.rows import number_of, row_of, xored

BLOCK_SIZE = 16
TAG_SIZE = 16
REDUCTION = 0xe1000000000000000000000000000000


def sealed(key, nonce, beside, text):
    round_keys = round_keys_of(key)
    covered = under_stream(round_keys, nonce, text)
    return covered + tag_of(round_keys, nonce, beside, covered)


def unsealed(key, nonce, beside, row):
    round_keys = round_keys_of(key)
    end = len(row) - TAG_SIZE
    covered = row[:end]
    if tag_of(round_keys, nonce, beside, covered) != row[end:]:
        raise NotRight()
    return under_stream(round_keys, nonce, covered)


# The counter 1 is the tag's own, so the text's blocks begin at 2.
def under_stream(round_keys, nonce, row):
    result = []
    for start in range(0, len(row), BLOCK_SIZE):
        stream = encrypted(round_keys, nonce + row_of(start // BLOCK_SIZE + 2, 4))
        result.extend(xored(row[start:start + BLOCK_SIZE], stream))
    return result


def tag_of(round_keys, nonce, beside, covered):
    powers = powers_of(number_of(encrypted(round_keys, [0] * BLOCK_SIZE)))
    sizes = row_of(8 * len(beside), 8) + row_of(8 * len(covered), 8)
    hashed = ghash(powers, filled(beside) + filled(covered) + sizes)
    return xored(row_of(hashed, TAG_SIZE), encrypted(round_keys, nonce + row_of(1, 4)))


def filled(row):
    return row + [0] * (-len(row) % BLOCK_SIZE)


def ghash(powers, row):
    result = 0
    for start in range(0, len(row), BLOCK_SIZE):
        result = multiplied(powers, result ^ number_of(row[start:start + BLOCK_SIZE]))
    return result


# GCM reads a block's highest bit as the power 0, so a step up is a shift to the right.
def powers_of(subkey):
    power = subkey
    powers = []
    for place in range(8 * BLOCK_SIZE):
        powers.append(power)
        power = (power >> 1) ^ (REDUCTION if power & 1 == 1 else 0)
    return powers


def multiplied(powers, number):
    result = 0
    for place, power in enumerate(powers):
        if (number >> (8 * BLOCK_SIZE - 1 - place)) & 1 == 1:
            result ^= power
    return result
