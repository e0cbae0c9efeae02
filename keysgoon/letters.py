"""Letters: what an end writes, and what it reads."""

from keysgoon.curve import public_key
from keysgoon.derive import derived
from keysgoon.gcm import sealed, unsealed
from keysgoon.refusals import NotRight, NothingToWriteOn, TooManyKeys
from keysgoon.rows import number_of, row_of, row_of_text
from keysgoon.state import kept_place

HEAD_SIZE = 40
MOST_LETTERS = 2147483647
MOST_KEPT = 64


def write_letter(end, text, beside):
    if end.write_chain is None or end.written == MOST_LETTERS:
        raise NothingToWriteOn()
    head = public_key(end.own) + row_of(end.before, 4) + row_of(end.written, 4)
    pair = key_and_nonce(end.next_write_key())
    return head + sealed(pair[:32], pair[32:], beside + head, text)


# What it has changed of the end stays changed when it refuses: the caller hands in a copy.
def read_letter(end, letter, beside, fresh):
    head = letter[:HEAD_SIZE]
    pair = key_and_nonce(key_for(end, head, fresh))
    return unsealed(pair[:32], pair[32:], beside + head, letter[HEAD_SIZE:])


def key_and_nonce(key):
    return derived([0] * 32, key, row_of_text("letter"), 64)[:44]


def key_for(end, head, fresh):
    public = head[:32]
    before = number_of(head[32:36])
    number = number_of(head[36:])
    if number >= MOST_LETTERS:
        raise NotRight()
    place = kept_place(public, number)
    key = end.kept_key(place)
    if key is not None:
        end.drop_kept(place)
        return key
    if end.read_chain is not None and public == end.their:
        if number < end.read:
            raise NotRight()
        need_room(end, number - end.read)
    else:
        turn_to(end, public, before, number, fresh)
    end.pass_over(number)
    return end.next_read_key()


def turn_to(end, public, before, number, fresh):
    if end.read_chain is None:
        need_room(end, number)
    else:
        need_room(end, max(before - end.read, 0) + number)
        end.pass_over(before)
    end.turn(public, fresh)


# Asked before a chain goes on: a letter can tell of 4294967295 before it, and going through them takes too long.
def need_room(end, added):
    if len(end.kept) + added > MOST_KEPT:
        raise TooManyKeys()
