"""Letters: what an end writes, and what it reads."""

from keysgoon.curve import public_key
from keysgoon.derive import derived
from keysgoon.gcm import sealed, unsealed
from keysgoon.refusals import NotRight, NothingToWriteOn, TooManyKeys
from keysgoon.rows import number_of, row_of, row_of_text
from keysgoon.state import kept_place

HEAD_SIZE = 40
MOST_LETTERS = 2147483647
MOST_KEPT = 64


def write_letter(end, text, beside):
    if end.write_chain is None or end.written == MOST_LETTERS:
        raise NothingToWriteOn()
    head = public_key(end.own) + row_of(end.before, 4) + row_of(end.written, 4)
    pair = key_and_nonce(end.next_write_key())
    return head + sealed(pair[:32], pair[32:], beside + head, text)


# What it has changed of the end stays changed when it refuses: the caller hands in a copy.
def read_letter(end, letter, beside, fresh):
    head = letter[:HEAD_SIZE]
    pair = key_and_nonce(key_for(end, head, fresh))
    return unsealed(pair[:32], pair[32:], beside + head, letter[HEAD_SIZE:])


def key_and_nonce(key):
    return derived([0] * 32, key, row_of_text("letter"), 64)[:44]


def key_for(end, head, fresh):
    public = head[:32]
    before = number_of(head[32:36])
    number = number_of(head[36:])
    if number >= MOST_LETTERS:
        raise NotRight()
    place = kept_place(public, number)
    if place in end.kept:
        return end.kept.pop(place)
    if end.read_chain is not None and public == end.their:
        if number < end.read:
            raise NotRight()
        need_room(end, newly_kept(end, public, end.read, number))
    else:
        turn_to(end, public, before, number, fresh)
    end.pass_over(number)
    return end.next_read_key()


def turn_to(end, public, before, number, fresh):
    added = newly_kept(end, public, 0, number)
    if end.read_chain is not None:
        added += newly_kept(end, end.their, end.read, before)
    need_room(end, added)
    if end.read_chain is not None:
        end.pass_over(before)
    end.turn(public, fresh)


# A public key that comes again may have keys kept from its earlier chain; a key of the
# same number takes such a one's place and needs no room. Where more are passed over than
# may be kept at all, nothing hangs on that, and going through up to 4294967295 numbers takes too long.
def newly_kept(end, public, start, stop):
    if stop - start > MOST_KEPT:
        return stop - start
    return len([number for number in range(start, stop) if kept_place(public, number) not in end.kept])


def need_room(end, added):
    if len(end.kept) + added > MOST_KEPT:
        raise TooManyKeys()
