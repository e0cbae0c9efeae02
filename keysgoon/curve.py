"""X25519 (RFC 7748): what a secret and a public key agree on."""

from keysgoon.rows import number_of, row_of

PRIME = 0x7fffffffffffffffffffffffffffffffffffffffffffffffffffffffffffffed
SIZE = 32
BASE = 9


def public_key(secret):
    return x25519(secret, [BASE] + [0] * (SIZE - 1))


def x25519(secret, public):
    point = multiplied(scalar_of(secret), coordinate_of(public))
    affine = point[0] * inverse(point[1]) % PRIME
    return list(reversed(row_of(affine, SIZE)))


# RFC 7748 has the lowest byte first, and clears and sets bits so that every secret is
# a multiple of 8 with the same highest bit.
def scalar_of(secret):
    number = number_of(list(reversed(secret)))
    return (number & ((1 << 254) - 8)) | (1 << 254)


# The highest bit doesn't count; what is at or above the prime is taken all the same.
def coordinate_of(public):
    number = number_of(list(reversed(public)))
    return (number & ((1 << 255) - 1)) % PRIME


# Points are pairs (x, z) that stand for x / z. The two points of the ladder always lie
# one base point apart, which is what lets added() do without the other coordinate.
def multiplied(scalar, base):
    near = (1, 0)
    far = (base, 1)
    for place in range(254, -1, -1):
        between = added(near, far, base)
        if (scalar >> place) & 1 == 1:
            near = between
            far = doubled(far)
        else:
            near = doubled(near)
            far = between
    return near


def doubled(point):
    plus = (point[0] + point[1]) ** 2 % PRIME
    minus = (point[0] - point[1]) ** 2 % PRIME
    apart = plus - minus
    return (plus * minus % PRIME, apart * (plus + 121665 * apart) % PRIME)


def added(near, far, base):
    one = (far[0] - far[1]) * (near[0] + near[1])
    other = (far[0] + far[1]) * (near[0] - near[1])
    return ((one + other) ** 2 % PRIME, base * ((one - other) ** 2 % PRIME) % PRIME)


# By Fermat: a number to the power of PRIME - 2. So 0 has the inverse 0, as RFC 7748 wants it.
def inverse(number):
    exponent = PRIME - 2
    result = 1
    for place in range(exponent.bit_length() - 1, -1, -1):
        result = result * result % PRIME
        if (exponent >> place) & 1 == 1:
            result = result * number % PRIME
    return result
