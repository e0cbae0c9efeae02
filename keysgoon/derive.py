"""HMAC (RFC 2104) and HKDF (RFC 5869), both with SHA-256."""

from keysgoon.digest import BLOCK_SIZE, sha256

DIGEST_SIZE = 32


def mac(key, message):
    short = sha256(key) if len(key) > BLOCK_SIZE else key
    block = short + [0] * (BLOCK_SIZE - len(short))
    inner = sha256([byte ^ 0x36 for byte in block] + message)
    return sha256([byte ^ 0x5c for byte in block] + inner)


def derived(salt, key, info, size):
    extracted = mac(salt, key)
    part = []
    whole = []
    # The number of a part is one byte: RFC 5869 gives no more than 255 parts.
    for number in range(1, (size + DIGEST_SIZE - 1) // DIGEST_SIZE + 1):
        part = mac(extracted, part + info + [number])
        whole.extend(part)
    return whole[:size]
