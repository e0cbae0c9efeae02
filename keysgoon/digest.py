"""SHA-256 (FIPS 180-4) of a row of bytes."""

from keysgoon.rows import number_of, row_of

BLOCK_SIZE = 64
WORD = 0xffffffff

FIRST_STATE = (
    0x6a09e667, 0xbb67ae85, 0x3c6ef372, 0xa54ff53a, 0x510e527f, 0x9b05688c, 0x1f83d9ab, 0x5be0cd19,
)

CONSTANTS = (
    0x428a2f98, 0x71374491, 0xb5c0fbcf, 0xe9b5dba5, 0x3956c25b, 0x59f111f1, 0x923f82a4, 0xab1c5ed5,
    0xd807aa98, 0x12835b01, 0x243185be, 0x550c7dc3, 0x72be5d74, 0x80deb1fe, 0x9bdc06a7, 0xc19bf174,
    0xe49b69c1, 0xefbe4786, 0x0fc19dc6, 0x240ca1cc, 0x2de92c6f, 0x4a7484aa, 0x5cb0a9dc, 0x76f988da,
    0x983e5152, 0xa831c66d, 0xb00327c8, 0xbf597fc7, 0xc6e00bf3, 0xd5a79147, 0x06ca6351, 0x14292967,
    0x27b70a85, 0x2e1b2138, 0x4d2c6dfc, 0x53380d13, 0x650a7354, 0x766a0abb, 0x81c2c92e, 0x92722c85,
    0xa2bfe8a1, 0xa81a664b, 0xc24b8b70, 0xc76c51a3, 0xd192e819, 0xd6990624, 0xf40e3585, 0x106aa070,
    0x19a4c116, 0x1e376c08, 0x2748774c, 0x34b0bcb5, 0x391c0cb3, 0x4ed8aa4a, 0x5b9cca4f, 0x682e6ff3,
    0x748f82ee, 0x78a5636f, 0x84c87814, 0x8cc70208, 0x90befffa, 0xa4506ceb, 0xbef9a3f7, 0xc67178f2,
)


def sha256(message):
    state = list(FIRST_STATE)
    whole = padded(message)
    for start in range(0, len(whole), BLOCK_SIZE):
        state = compressed(state, whole[start:start + BLOCK_SIZE])
    digest = []
    for word in state:
        digest.extend(row_of(word, 4))
    return digest


def padded(message):
    zeros = (55 - len(message)) % BLOCK_SIZE
    return message + [128] + [0] * zeros + row_of(8 * len(message), 8)


# A word written twice side by side turns into its rotation when it's shifted:
# what then lies above its 32 bits drops out where the sum is cut to a word.
def schedule_of(block):
    words = [number_of(block[start:start + 4]) for start in range(0, BLOCK_SIZE, 4)]
    for place in range(16, 64):
        early = words[place - 15]
        wide = (early << 32) | early
        total = words[place - 16] + ((wide >> 7) ^ (wide >> 18) ^ (early >> 3))
        late = words[place - 2]
        wide = (late << 32) | late
        total += words[place - 7] + ((wide >> 17) ^ (wide >> 19) ^ (late >> 10))
        words.append(total & WORD)
    return words


def compressed(state, block):
    a = state[0]
    b = state[1]
    c = state[2]
    d = state[3]
    e = state[4]
    f = state[5]
    g = state[6]
    h = state[7]
    for constant, word in zip(CONSTANTS, schedule_of(block)):
        wide = (e << 32) | e
        first = h + ((wide >> 6) ^ (wide >> 11) ^ (wide >> 25)) + (g ^ (e & (f ^ g))) + constant + word
        wide = (a << 32) | a
        second = ((wide >> 2) ^ (wide >> 13) ^ (wide >> 22)) + ((a & b) | (c & (a | b)))
        h = g
        g = f
        f = e
        e = (d + first) & WORD
        d = c
        c = b
        b = a
        a = (first + second) & WORD
    return [(old + new) & WORD for old, new in zip(state, [a, b, c, d, e, f, g, h])]
