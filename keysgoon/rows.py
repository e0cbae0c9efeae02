"""Rows of bytes: lists of whole numbers from 0 to 255."""


def number_of(row):
    number = 0
    for byte in row:
        number = (number << 8) | byte
    return number


def row_of(number, size):
    return [(number >> (8 * place)) & 255 for place in range(size - 1, -1, -1)]


def row_of_text(text):
    return [ord(sign) for sign in text]


# The longer row's end is left out: a text's last block may be shorter than the stream over it.
def xored(left, right):
    return [one ^ other for one, other in zip(left, right)]
