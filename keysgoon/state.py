"""An end: its keys, its chains and the keys it has kept."""

from keysgoon.curve import SIZE, x25519
from keysgoon.derive import derived, mac
from keysgoon.refusals import NotRight
from keysgoon.rows import row_of_text


# No row that an end holds is ever changed in its place, so a copy may share them.
class End:
    def __init__(self, root, own):
        self.root = root
        self.own = own
        self.their = None
        self.write_chain = None
        self.read_chain = None
        self.written = 0
        self.read = 0
        self.before = 0
        self.kept = []

    def copied(self):
        other = End(self.root, self.own)
        other.their = self.their
        other.write_chain = self.write_chain
        other.read_chain = self.read_chain
        other.written = self.written
        other.read = self.read
        other.before = self.before
        other.kept = list(self.kept)
        return other

    def chain_with(self, public):
        both = derived(self.root, agreed(self.own, public), row_of_text("root"), 64)
        self.root = both[:32]
        return both[32:]

    def begin(self, their):
        self.their = their
        self.write_chain = self.chain_with(their)

    def turn(self, their, fresh):
        self.read_chain = self.chain_with(their)
        self.own = fresh
        self.begin(their)
        self.before = self.written
        self.written = 0
        self.read = 0

    def next_write_key(self):
        key = letter_key(self.write_chain)
        self.write_chain = chain_after(self.write_chain)
        self.written += 1
        return key

    def next_read_key(self):
        key = letter_key(self.read_chain)
        self.read_chain = chain_after(self.read_chain)
        self.read += 1
        return key

    def pass_over(self, number):
        while self.read < number:
            place = kept_place(self.their, self.read)
            self.kept.append((place, self.next_read_key()))

    # A public key that comes again may have several keys kept at one place: the first of them holds.
    def kept_key(self, place):
        for pair in self.kept:
            if pair[0] == place:
                return pair[1]
        return None

    def drop_kept(self, place):
        self.kept = [pair for pair in self.kept if pair[0] != place]


def letter_key(chain):
    return mac(chain, [1])


def chain_after(chain):
    return mac(chain, [2])


def kept_place(public, number):
    return (tuple(public), number)


# A public key of low order agrees on 0 with every secret: anybody would know the chain.
def agreed(secret, public):
    row = x25519(secret, public)
    if row == [0] * SIZE:
        raise NotRight()
    return row
