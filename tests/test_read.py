"""Point 5."""

from tests.helper import (
    A0, A1, A2, B0, B1, B2, LOW_ORDER, ZEROS, EndsCase, Partner, ask, counted, hkdf, init_call, mac, made_letter,
    public_key, read_call, row, write_call, x25519,
)

BEGIN = [init_call(1, 0, B0, ZEROS)]
MOST = 2147483647


def text_of(number):
    return b"text %d" % number


def with_number(letter, number):
    return letter[:36] + list(number.to_bytes(4, "big")) + letter[40:]


def with_before(letter, before):
    return letter[:32] + list(before.to_bytes(4, "big")) + letter[36:]


class ReadCase(EndsCase):
    def setUp(self):
        self.partner = Partner(A0, public_key(B0))

    def read(self, number, fresh=B1, before=0):
        return read_call(1, self.partner.letter(number, text_of(number), before=before), fresh=fresh)

    def check_numbers(self, numbers):
        """Read on one chain, each of these is opened."""
        result = ask(BEGIN + [self.read(number) for number in numbers])[1:]
        self.assertEqual(result, [counted(text_of(number)) for number in numbers])


class OneChain(ReadCase):
    def test_in_order(self):
        self.check_numbers(range(10))

    def test_out_of_order(self):
        self.check_numbers([3, 0, 2, 1, 4, 9, 5, 8, 6, 7])
        self.check_numbers(list(range(20, -1, -1)))

    def test_first_letter_with_others_passed_over(self):
        self.check_numbers([64, 0, 63, 31])

    def test_sizes(self):
        much = [k % 251 for k in range(4096)]
        calls = list(BEGIN)
        expected = [[0]]
        sizes = [(0, b""), (0, much), (1, b"x"), (16, b""), (17, much[:16]), (999, b"")]
        for number, (size, beside) in enumerate(sizes):
            text = [(3 * k) % 256 for k in range(size)]
            calls.append(read_call(1, self.partner.letter(number, text, beside), beside))
            expected.append(counted(text))
        self.assertEqual(ask(calls), expected)

    def test_the_longest_letter(self):
        text = [k % 256 for k in range(29000)]
        self.check_read(BEGIN + [read_call(1, self.partner.letter(0, text))], text)

    def test_twice(self):
        for numbers in ([0, 0], [0, 1, 1], [0, 1, 0], [2, 2]):
            result = ask(BEGIN + [self.read(number) for number in numbers])
            self.assertEqual(result[-1], [-4])
            self.assertNotIn([-4], result[:-1])

    def test_a_kept_key_is_used_once(self):
        result = ask(BEGIN + [self.read(3), self.read(1), self.read(1), self.read(0), self.read(0), self.read(4)])
        self.assertEqual(
            result[1:], [counted(text_of(3)), counted(text_of(1)), [-4], counted(text_of(0)), [-4], counted(text_of(4))]
        )

    def test_a_kept_key_stays_where_the_tag_is_wrong(self):
        letter = self.partner.letter(1, text_of(1))
        wrong = [read_call(1, letter[:-1] + [letter[-1] ^ 1]), read_call(1, letter, b"beside")]
        self.check_refused(BEGIN + [self.read(3)], wrong, -4, [self.read(1), self.read(0), write_call(1)])

    def test_fresh_is_not_used_on_a_chain_that_is_there(self):
        ahead = BEGIN + [self.read(2, B1)]
        result = ask(ahead + [self.read(3, B2), self.read(0, B2), write_call(1)])
        self.assertEqual(result[-1], ask(ahead + [write_call(1)])[-1])
        self.assertEqual(result[-1][1:33], public_key(B1))

    def test_the_number_before_does_not_count_on_a_chain_that_is_there(self):
        result = ask(BEGIN + [self.read(0), self.read(1, before=4294967295), self.read(2, before=50)])
        self.assertEqual(result[1:], [counted(text_of(k)) for k in range(3)])

    def test_below_how_many_were_read(self):
        self.check_refused(BEGIN + [self.read(0), self.read(1)], [self.read(0), self.read(1)], -4, [self.read(2)])

    def test_below_how_many_were_read_though_its_tag_would_be_right(self):
        # Sealed under the key that the chain has come to, but with a number that was read before.
        chain = mac(mac(mac(self.partner.chain, b"\2"), b"\2"), b"\2")
        letter = made_letter(chain, self.partner.public, 0, 0)
        ahead = BEGIN + [self.read(0), self.read(1), self.read(2)]
        self.check_refused(ahead, [read_call(1, letter)], -4, [self.read(3), self.read(4)])

    def test_no_letter(self):
        self.check_refused(BEGIN, [read_call(1, [])], -2, [self.read(1), self.read(0), write_call(1)])
        self.check_refused(BEGIN + [self.read(1)], [read_call(1, [], b"beside")], -2, [self.read(0), write_call(1)])


class Numbers(ReadCase):
    def test_too_great_a_number(self):
        letter = self.partner.letter(1)
        great = [read_call(1, with_number(letter, number)) for number in (MOST, MOST + 1, 4294967295)]
        # On a new public key, and on the chain that is there; this is told ahead of -5.
        self.check_refused(BEGIN, great, -4, [self.read(0), write_call(1)])
        self.check_refused(BEGIN + [self.read(2)], great, -4, [self.read(0), self.read(3), write_call(1)])

    def test_the_greatest_number(self):
        letter = with_number(self.partner.letter(1), MOST - 1)
        self.check_refused(BEGIN, [read_call(1, letter)], -5, [self.read(0), write_call(1)])
        self.check_refused(BEGIN + [self.read(2)], [read_call(1, letter)], -5, [self.read(0), self.read(3)])

    def test_the_greatest_number_before(self):
        # It only counts where there's a chain to read on.
        result = ask(BEGIN + [self.read(0, before=4294967295)])
        self.assertEqual(result[1], counted(text_of(0)))
        other = made_letter(bytes(32), public_key(A1), 4294967295, 0)
        self.check_refused(BEGIN + [self.read(0)], [read_call(1, other)], -5, [self.read(1), write_call(1)])


class NewKey(ReadCase):
    def second_chain(self, ahead, fresh=B1):
        """Behind these calls, with what the partner wrote on the chain before."""
        self.first = Partner(A0, public_key(B0))
        self.partner.answered(fresh, A1)
        return BEGIN + ahead

    def test_letters_passed_over_on_both_chains(self):
        ahead = [self.read(0), self.read(2)]
        calls = self.second_chain(ahead)
        calls.append(read_call(1, self.partner.letter(3, b"new 3", before=5), fresh=B2))
        expected = [b"new 3"]
        for number in (4, 1, 3):
            calls.append(read_call(1, self.first.letter(number, text_of(number))))
            expected.append(text_of(number))
        for number in (1, 4, 2, 0):
            calls.append(read_call(1, self.partner.letter(number, text_of(number), before=5)))
            expected.append(text_of(number))
        # Of the chain before, no more than five were told of: this one has no key.
        calls.append(read_call(1, self.first.letter(5)))
        self.assertEqual(ask(calls)[3:], [counted(text) for text in expected] + [[-4]])

    def test_numbers_begin_anew(self):
        calls = self.second_chain([self.read(0), self.read(1), self.read(2)])
        calls += [read_call(1, self.partner.letter(k, text_of(k), before=3)) for k in (0, 1, 2)]
        self.assertEqual(ask(calls)[4:], [counted(text_of(k)) for k in range(3)])

    def test_fewer_before_than_were_read(self):
        for before in (0, 1, 2):
            self.partner = Partner(A0, public_key(B0))
            calls = self.second_chain([self.read(0), self.read(1), self.read(2)])
            calls.append(read_call(1, self.partner.letter(64, b"text", before=before), fresh=B2))
            self.check_read(calls, b"text")

    def test_own_is_fresh(self):
        calls = self.second_chain([self.read(0), write_call(1), write_call(1)])
        ahead = calls + [read_call(1, self.partner.letter(0, before=1), fresh=B2)]
        result = ask(ahead + [write_call(1, b"text")])
        self.assertEqual(result[2][1:33], public_key(B1))
        self.assertEqual(result[-1][1:41], public_key(B2) + [0, 0, 0, 2, 0, 0, 0, 0])
        # The root went on by X(own, u), then by X(fresh, u); that chain is written on.
        chain = self.partner.go_on(x25519(B2, public_key(A1)))
        self.assertEqual(result[-1][1:], made_letter(chain, public_key(B2), 2, 0, b"text"))

    def test_refused_ones_leave_all(self):
        ahead = self.second_chain([self.read(1), write_call(1)])
        letter = self.partner.letter(2, b"text", b"beside", before=4)
        refused = [
            read_call(1, letter, b"", B2),
            read_call(1, letter, b"besidf", B2),
            read_call(1, with_before(letter, 3), b"beside", B2),
            read_call(1, with_number(letter, 1), b"beside", B2),
            read_call(1, with_number(letter, 3), b"beside", B2),
        ]
        behind = [
            write_call(1),
            read_call(1, self.first.letter(0, b"kept")),
            read_call(1, self.first.letter(2, b"next")),
            write_call(1),
            read_call(1, letter, b"beside", B2),
            write_call(1),
            read_call(1, self.first.letter(3, b"kept")),
            read_call(1, self.partner.letter(0, b"kept", before=4)),
        ]
        self.check_refused(ahead, refused, -4, behind)
        self.assertNotIn([-4], ask(ahead + behind))


class KeyThatComesAgain(ReadCase):
    def again(self, passed):
        """As many keys of the first chain are kept; then, behind another public key, the first one comes again."""
        ahead = BEGIN + [self.read(passed)]
        self.first = Partner(A0, public_key(B0))
        self.partner.answered(B1, A1)
        ahead.append(self.read(0, B2, before=passed + 1))
        self.partner.answered(B2, A0)
        return ahead

    def new(self, number):
        return self.read(number, A2, before=1)

    def old(self, number):
        return read_call(1, self.first.letter(number, b"old %d" % number))

    def test_an_earlier_key_is_not_lost(self):
        ahead = self.again(3)
        behind = [self.new(5), self.old(2), self.old(0), self.new(4), self.new(3), self.old(1), self.new(6)]
        texts = [b"text 5", b"old 2", b"old 0", b"text 4", b"text 3", b"old 1", b"text 6"]
        self.assertEqual(ask(ahead + behind)[3:], [counted(text) for text in texts])

    def test_a_letter_is_held_against_the_key_that_was_kept_first(self):
        ahead = self.again(3)
        # Before the new chain is there, and behind it, when a key of its own is kept too.
        self.check_refused(ahead, [self.new(0), self.new(2)], -4, [self.new(3), self.old(0), self.old(2)])
        ahead.append(self.new(3))
        self.check_refused(ahead, [self.new(0), self.new(2)], -4, [self.old(0), self.old(2), self.new(4)])
        self.assertEqual(ask(ahead + [self.old(2)])[-1], counted(b"old 2"))

    def test_none_is_kept_when_one_was_used(self):
        ahead = self.again(3) + [self.new(5), self.old(1)]
        self.check_refused(ahead, [self.old(1), self.new(1)], -4, [self.old(0), self.old(2), self.new(4)])

    def test_three_chains_of_one_public_key(self):
        ahead = self.again(2) + [self.new(3)]
        self.partner.answered(A2, A1)
        ahead.append(self.read(0, B1, before=4))
        self.partner.answered(B1, A0)
        ahead.append(self.read(4, B2, before=1))
        # Number 2 was first kept of the second chain, 3 of the third alone.
        second = Partner(A0, public_key(B0))
        second.answered(B1, A1)
        second.answered(B2, A0)
        behind = [self.old(1), read_call(1, second.letter(2, b"second")), self.read(3)]
        self.assertEqual(ask(ahead + behind)[-3:], [counted(b"old 1"), counted(b"second"), counted(text_of(3))])
        self.check_refused(ahead, [self.read(number) for number in (0, 1, 2)], -4, behind)

    def test_all_of_them_need_room(self):
        ahead = self.again(30)
        self.check_refused(ahead, [self.new(35), self.new(64), self.new(65)], -5, [self.new(34), self.new(35)])
        self.assertEqual(ask(ahead + [self.new(34), self.new(35)])[-2:], [counted(b"text 34"), counted(b"text 35")])
        full = ahead + [self.new(34)]
        self.check_refused(full, [self.new(36)], -5, [self.new(35)])

    def test_using_one_makes_room_for_all_of_its_place(self):
        full = self.again(30) + [self.new(34), self.old(7)]
        self.check_refused(full, [self.new(38)], -5, [self.new(37), self.new(36)])
        self.assertEqual(ask(full + [self.new(37)])[-1], counted(b"text 37"))


class Room(ReadCase):
    def test_64_keys_on_one_chain(self):
        behind = [self.read(k) for k in (0, 63, 65)] + [write_call(1)]
        self.check_refused(BEGIN, [self.read(65)], -5, [self.read(64)] + behind)
        self.check_numbers([64, 65, 66] + list(range(64)))

    def test_one_more_key(self):
        ahead = BEGIN + [self.read(64)]
        self.check_refused(ahead, [self.read(66), self.read(67)], -5, [self.read(65), self.read(0), self.read(67)])
        self.assertEqual(ask(ahead + [self.read(65), self.read(0), self.read(67)])[-1], counted(text_of(67)))

    def test_a_used_key_makes_room_for_one(self):
        ahead = BEGIN + [self.read(64), self.read(9)]
        self.assertEqual(ask(ahead + [self.read(66)])[-1], counted(text_of(66)))
        self.check_refused(ahead, [self.read(67)], -5, [self.read(66), self.read(65)])

    def test_a_kept_key_needs_no_room(self):
        self.check_numbers([64, 5, 66, 65])

    def test_both_chains_together(self):
        # 10 are kept, 20 are passed over on the chain before, and then up to 34 on the new one.
        ahead = BEGIN + [self.read(10)]
        first = Partner(A0, public_key(B0))
        self.partner.answered(B1, A1)
        behind = [self.read(34, B2, before=31), write_call(1), read_call(1, first.letter(30, b"kept"))]
        self.check_refused(ahead, [self.read(35, B2, before=31), self.read(34, B2, before=32)], -5, behind)
        self.assertEqual(ask(ahead + behind)[2], counted(text_of(34)))
        self.assertEqual(ask(ahead + behind)[4], counted(b"kept"))

    def test_the_chain_before_alone(self):
        ahead = BEGIN + [self.read(0)]
        self.partner.answered(B1, A1)
        refused = [self.read(0, before=66), self.read(0, before=4294967295)]
        self.check_refused(ahead, refused, -5, [self.read(0, before=65), write_call(1)])
        self.assertEqual(ask(ahead + [self.read(0, before=65)])[-1], counted(text_of(0)))

    def test_wrong_tags_do_not_fill_it(self):
        letter = self.partner.letter(64)
        wrong = read_call(1, letter[:-1] + [letter[-1] ^ 128])
        self.check_refused(BEGIN, [wrong] * 3, -4, [self.read(64), self.read(0), write_call(1)])


class Zeros(ReadCase):
    def zero_letter(self, root, public, number, before=0):
        """A letter that would be opened if 32 bytes of 0 were taken."""
        chain = hkdf(root, bytes(32), b"root")[32:]
        return read_call(1, made_letter(chain, public, before, number), fresh=B2)

    def test_on_a_new_end(self):
        refused = [self.zero_letter(bytes(range(32)), public, 0) for public in LOW_ORDER]
        self.check_refused(BEGIN, refused, -4, [self.read(1), write_call(1), self.read(0)])

    def test_behind_a_chain(self):
        ahead = BEGIN + [self.read(1), write_call(1)]
        self.partner.go_on(x25519(B1, public_key(A0)))
        refused = [self.zero_letter(self.partner.root, public, 2, 4) for public in LOW_ORDER]
        self.check_refused(ahead, refused, -4, [write_call(1), self.read(2), self.read(0), write_call(1)])

    def test_too_many_keys_are_told_ahead(self):
        refused = [self.zero_letter(bytes(range(32)), public, 65) for public in LOW_ORDER]
        self.check_refused(BEGIN, refused, -5, [self.read(0)])
        refused = [self.zero_letter(bytes(32), public, 30, 36) for public in LOW_ORDER]
        self.check_refused(BEGIN + [self.read(0)], refused, -5, [self.read(1)])
        exact = [self.zero_letter(bytes(32), public, 30, 35) for public in LOW_ORDER]
        self.check_refused(BEGIN + [self.read(0)], exact, -4, [self.read(1)])


class Changed(ReadCase):
    def check_all_changed(self, ahead, letter, beside, behind):
        refused = []
        for place in range(40, len(letter)):
            changed = list(letter)
            changed[place] ^= 1 << (place % 8)
            refused.append(read_call(1, changed, beside, B2))
        for wrong in (b"", beside + b"\0", b"\0" + beside, beside[:-1], beside[:-1] + b"?"):
            refused.append(read_call(1, letter, wrong, B2))
        refused.append(read_call(1, letter + [0], beside, B2))
        refused.append(read_call(1, letter[:40] + letter[41:], beside, B2))
        self.check_refused(ahead, refused, -4, behind)

    def test_on_a_new_end(self):
        letter = self.partner.letter(1, b"text", b"beside")
        behind = [write_call(1), read_call(1, letter, b"beside"), write_call(1), self.read(0)]
        self.check_all_changed(BEGIN, letter, b"beside", behind)

    def test_on_a_chain(self):
        letter = self.partner.letter(3, b"text", b"beside")
        behind = [write_call(1), read_call(1, letter, b"beside"), write_call(1), self.read(0), self.read(2)]
        self.check_all_changed(BEGIN + [self.read(1)], letter, b"beside", behind)

    def test_under_a_kept_key(self):
        letter = self.partner.letter(0, b"text", b"beside")
        behind = [write_call(1), read_call(1, letter, b"beside"), write_call(1), self.read(2)]
        self.check_all_changed(BEGIN + [self.read(1)], letter, b"beside", behind)

    def test_the_head(self):
        ahead = BEGIN + [self.read(0)]
        letter = self.partner.letter(1, b"text")
        refused = []
        for place in range(40):
            # Not the upper bytes of the number: they make it -5.
            if place not in (36, 37, 38):
                changed = list(letter)
                changed[place] ^= 2
                refused.append(read_call(1, changed, fresh=B2))
        self.check_refused(ahead, refused, -4, [read_call(1, letter), write_call(1), self.read(2)])
        # On the chain that is there, how many before opens nothing else but is sealed too.
        wrong = [read_call(1, with_before(letter, before)) for before in (1, 4294967295)]
        self.check_refused(ahead, wrong, -4, [read_call(1, letter)])

    def test_beside_and_head_are_not_mixed_up(self):
        # Their bytes together are the same where the head comes first: that must not do.
        letter = self.partner.letter(0, b"text", b"beside")
        wrong = made_letter(self.partner.chain, self.partner.public, 0, 0, b"text", b"")
        self.check_refused(BEGIN, [read_call(1, wrong, b"beside"), read_call(1, letter)], -4, [self.read(0)])

    def test_letters_of_another_end(self):
        other = Partner(A0, public_key(B0), ZEROS)
        self.check_refused(BEGIN, [read_call(1, other.letter(0))], -4, [self.read(0)])


class BothWays(EndsCase):
    def test_known_letters(self):
        # Made with other implementations of all that is used.
        first = row(
            "358072d6365880d1aeea329adf9121383851ed21a28e3b75e965d0d2cd16625400000000000000007"
            "8a30b3354063b900e4a0df505742ca53cfd1b9a0b"
        )
        answer = row(
            "493e82fc74464a59268817623d2053c5eb8e2cc4a988b4fee179ec6b010d531d0000000000000000487c46eda33f53fb9ddb3e70"
            "ebe75e3e5b0acae7780ad44ee769adcf049ce3f1b80e4f02cb2cf3c84a54a8582ea79b91"
        )
        more = row(
            "493e82fc74464a59268817623d2053c5eb8e2cc4a988b4fee179ec6b010d531d0000000000000001"
            "9b96923324e8790da76773d71427eecf49bb292c46ca99ce"
        )
        back = row(
            "675dd574ed7789310b3d2e7681f3790b466c773b1521fecf36577958371ea52f0000000200000000"
            "bd29a816096059797b7b7bc984d73034ee9c1f74a8b129707a2c"
        )
        calls = [init_call(0, 1, A0, public_key(B0)), init_call(1, 0, B0, ZEROS)]
        calls += [write_call(0, b"first"), write_call(0, b"", b"beside"), read_call(1, first, fresh=B1)]
        calls += [write_call(1, b"an answer of more than one block", b"x"), write_call(1, b"and more")]
        calls += [read_call(0, more, fresh=A1), write_call(0, b"back again"), read_call(0, answer, b"x", A2)]
        calls += [read_call(1, back, fresh=B2)]
        result = ask(calls)
        self.assertEqual(result[2], counted(first))
        self.assertEqual(result[4:7], [counted(b"first"), counted(answer), counted(more)])
        self.assertEqual(result[7:9], [counted(b"and more"), counted(back)])
        self.assertEqual(result[9:], [counted(b"an answer of more than one block"), counted(b"back again")])

    def test_several_times(self):
        calls = [init_call(0, 1, A0, public_key(B0)), init_call(1, 0, B0, ZEROS)]
        late = []
        for turn in range(6):
            writer = turn % 2
            texts = [b"%d of %d" % (k, turn) for k in range(4)]
            calls += [write_call(writer, text, b"turn") for text in texts]
            letters = [answer[1:] for answer in ask(calls)[-4:]]
            fresh = [turn + 1] * 32
            # Letter 2 is read first, 1 behind it; 0 and 3 come when all else is done.
            for number in (2, 1):
                calls.append(read_call(1 - writer, letters[number], b"turn", fresh))
                self.check_read(calls, texts[number])
            late += [(1 - writer, letters[number], texts[number]) for number in (0, 3)]
        start = len(calls)
        calls += [read_call(end, letter, b"turn", A2) for end, letter, text in late]
        self.assertEqual(ask(calls)[start:], [counted(text) for end, letter, text in late])
        start = len(calls)
        calls += [read_call(end, letter, b"turn", A2) for end, letter, text in late]
        self.assertEqual(ask(calls)[start:], [[-4]] * len(late))
        heads = [answer[1:33] for call, answer in zip(calls, ask(calls)) if call[0] == 2]
        self.assertEqual(len({tuple(head) for head in heads}), 6)
