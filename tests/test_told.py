"""Point 6."""

from tests.helper import (
    A0, A1, A2, B0, B1, B2, LOW_ORDER, ZEROS, EndsCase, Partner, all_told, ask, counted, forget_call, init_call,
    own_call, public_key, read_call, told_call, write_call,
)

SILENT = [init_call(1, 0, B0, ZEROS)]
WRITER = [init_call(0, 1, A0, public_key(B0))]


def spoiled(letter):
    return letter[:-1] + [letter[-1] ^ 1]


class ToldCase(EndsCase):
    def setUp(self):
        self.partner = Partner(A0, public_key(B0))

    def read(self, number, fresh=B1, before=0):
        return read_call(1, self.partner.letter(number, b"text", before=before), fresh=fresh)

    def wrong(self, number, fresh=B1, before=0):
        return read_call(1, spoiled(self.partner.letter(number, b"text", before=before)), fresh=fresh)


class Told(ToldCase):
    def test_a_new_end(self):
        self.check_told(SILENT, 1, [0, 0, 0, 0, 0])
        self.check_told([init_call(0, 0, B0, public_key(A0))], 0, [0, 0, 0, 0, 0])
        self.check_told(WRITER, 0, [0, 0, 0, 0, 1])
        self.check_told([init_call(1, 1, A0, public_key(B0))], 1, [0, 0, 0, 0, 1])

    def test_one_number_is_answered(self):
        for what in range(5):
            self.assertEqual(len(ask(SILENT + [self.read(2), told_call(1, what)])[-1]), 1)

    def test_letters_written(self):
        for many in (1, 2, 3, 20):
            self.check_told(WRITER + [write_call(0, b"text")] * many, 0, [many, 0, 0, 0, 1])

    def test_more_than_255_written(self):
        self.check_told(WRITER + [write_call(0)] * 300, 0, [300, 0, 0, 0, 1])

    def test_letters_read_in_order(self):
        for many in (1, 2, 5):
            self.check_told(SILENT + [self.read(k) for k in range(many)], 1, [0, many, 0, 0, 1])

    def test_letters_passed_over(self):
        self.check_told(SILENT + [self.read(1)], 1, [0, 2, 0, 1, 1])
        self.check_told(SILENT + [self.read(0), self.read(5)], 1, [0, 6, 0, 4, 1])
        self.check_told(SILENT + [self.read(64)], 1, [0, 65, 0, 64, 1])
        self.check_told(SILENT + [self.read(3), self.read(6)], 1, [0, 7, 0, 5, 1])

    def test_letters_read_late(self):
        calls = SILENT + [self.read(3)]
        for late, kept in ((1, 2), (0, 1), (2, 0)):
            calls.append(self.read(late))
            self.check_told(calls, 1, [0, 4, 0, kept, 1])
        calls.append(self.read(4))
        self.check_told(calls, 1, [0, 5, 0, 0, 1])

    def test_a_chain_to_write_on(self):
        chain = [told_call(1, 4)]
        result = ask(SILENT + chain + [write_call(1), self.wrong(0)] + chain + [self.read(0)] + chain + [write_call(1)])
        self.assertEqual(result[1:7], [[0], [-3], [-4], [0], counted(b"text"), [1]])
        self.assertEqual(result[7][0], 56)

    def test_a_new_public_key(self):
        calls = SILENT + [self.read(0), write_call(1), write_call(1), write_call(1), self.read(1)]
        self.check_told(calls, 1, [3, 2, 0, 0, 1])
        self.partner.answered(B1, A1)
        calls.append(self.read(0, B2, before=2))
        self.check_told(calls, 1, [0, 1, 3, 0, 1])
        calls.append(write_call(1))
        self.check_told(calls, 1, [1, 1, 3, 0, 1])
        self.partner.answered(B2, A2)
        calls.append(self.read(0, B0, before=1))
        self.check_told(calls, 1, [0, 1, 1, 0, 1])
        # Nothing was written on the chain behind: that is then how many on the chain before.
        self.partner.answered(B0, A0)
        calls.append(self.read(0, B1, before=1))
        self.check_told(calls, 1, [0, 1, 0, 0, 1])

    def test_a_new_public_key_with_letters_passed_over_on_both_chains(self):
        calls = SILENT + [self.read(2), write_call(1)]
        first = Partner(A0, public_key(B0))
        self.partner.answered(B1, A1)
        calls.append(self.read(4, B2, before=6))
        self.check_told(calls, 1, [0, 5, 1, 2 + 3 + 4, 1])
        calls.append(read_call(1, first.letter(5)))
        self.check_told(calls, 1, [0, 5, 1, 8, 1])
        calls.append(self.read(0))
        self.check_told(calls, 1, [0, 5, 1, 7, 1])

    def test_a_new_public_key_behind_first_1(self):
        calls = WRITER + [write_call(0), write_call(0)]
        root = Partner(A0, public_key(B0)).root
        calls.append(read_call(0, Partner(B1, public_key(A0), root).letter(3), fresh=A1))
        self.check_told(calls, 0, [0, 4, 2, 3, 1])

    def test_init_anew(self):
        calls = SILENT + [self.read(2), write_call(1)]
        self.partner.answered(B1, A1)
        calls.append(self.read(3, B2, before=4))
        calls.append(write_call(1))
        self.check_told(calls, 1, [1, 4, 1, 6, 1])
        self.check_told(calls + SILENT, 1, [0, 0, 0, 0, 0])
        self.check_told(calls + [init_call(1, 1, A0, public_key(B0))], 1, [0, 0, 0, 0, 1])
        self.check_told(calls + SILENT + [init_call(1, 1, A0, public_key(B0))] + SILENT, 1, [0, 0, 0, 0, 0])

    def test_a_key_that_comes_again_counts_each_time(self):
        first = Partner(A0, public_key(B0))
        calls = SILENT + [self.read(3)]
        self.partner.answered(B1, A1)
        calls.append(self.read(0, B2, before=4))
        self.partner.answered(B2, A0)
        calls.append(self.read(5, A2, before=1))
        self.check_told(calls, 1, [0, 6, 0, 3 + 5, 1])
        self.assertEqual(ask(calls + [forget_call(1)])[-1], [8])
        # Both of number 1 are gone with the one that was used.
        calls.append(read_call(1, first.letter(1, b"old")))
        self.check_told(calls, 1, [0, 6, 0, 6, 1])
        calls.append(self.read(4))
        self.check_told(calls, 1, [0, 6, 0, 5, 1])

    def test_it_changes_nothing(self):
        ahead = SILENT + [self.read(3), write_call(1)]
        behind = [write_call(1), self.read(1), self.read(5), forget_call(1)]
        result = ask(ahead + all_told(1) * 2 + behind)
        self.assertEqual(result[:3] + result[15:], ask(ahead + behind))
        self.assertEqual(result[3:9], result[9:15])


class Refused(ToldCase):
    """All five numbers are as they were; check_refused asks for them behind each refused call."""

    def states(self):
        """Ends with nothing, on one chain, with a chain before, and with all the keys that may be kept."""
        yield SILENT
        yield SILENT + [self.read(2), write_call(1), self.read(0)]
        yield SILENT + [self.read(64), write_call(1)]
        calls = SILENT + [self.read(1), write_call(1), write_call(1)]
        self.partner.answered(B1, A1)
        yield calls + [self.read(3, B2, before=4), write_call(1)]

    def test_wrong_arguments(self):
        wrong = [init_call(1, 2, A1, public_key(B2)), read_call(1, []), told_call(1, 5), told_call(1, -1)]
        for ahead in self.states():
            self.check_refused(ahead, wrong, -2, [write_call(1), forget_call(1)])

    def test_nothing_to_write_on(self):
        self.check_refused(SILENT, [write_call(1), write_call(1, b"text", b"beside")], -3, [self.read(1)])

    def test_init(self):
        wrong = [init_call(1, 1, A1, their) for their in LOW_ORDER]
        for ahead in self.states():
            self.check_refused(ahead, wrong, -4, [write_call(1), forget_call(1)])

    def test_letters(self):
        other = Partner(A2, public_key(B2), ZEROS)
        for ahead in self.states():
            wrong = [read_call(1, other.letter(0), fresh=A2), read_call(1, [0] * 56, fresh=A2)]
            self.check_refused(ahead, wrong, -4, [write_call(1), forget_call(1)])
            wrong = [read_call(1, other.letter(65), fresh=A2)]
            self.check_refused(ahead, wrong, -5, [write_call(1), forget_call(1)])

    def test_letters_of_a_chain_that_is_there(self):
        ahead = SILENT + [self.read(3), self.read(1), write_call(1)]
        wrong = [self.wrong(number, B2) for number in (0, 1, 2, 3, 4, 7)] + [self.read(1, B2), self.read(3, B2)]
        self.check_refused(ahead, wrong, -4, [self.read(0), self.read(2), self.read(4), forget_call(1)])
        self.check_refused(ahead, [self.read(67, B2), self.wrong(67, B2)], -5, [self.read(66), forget_call(1)])

    def test_letters_with_a_new_public_key(self):
        ahead = SILENT + [self.read(3), write_call(1)]
        self.partner.answered(B1, A1)
        wrong = [self.wrong(number, B2, before) for number in (0, 2) for before in (0, 4, 9)]
        self.check_refused(ahead, wrong, -4, [self.read(2, B2, before=9), forget_call(1)])
        wrong = [self.read(62, B2, before=4), self.read(0, B2, before=66), self.read(31, B2, before=35)]
        self.check_refused(ahead, wrong, -5, [self.read(30, B2, before=35), forget_call(1)])


class Forget(ToldCase):
    def test_no_keys(self):
        self.assertEqual(ask(SILENT + [forget_call(1)])[-1], [0])
        self.assertEqual(ask(WRITER + [write_call(0), forget_call(0)])[-1], [0])
        self.assertEqual(ask(SILENT + [self.read(0), self.read(1), forget_call(1)])[-1], [0])

    def test_keys(self):
        for many in (1, 2, 10, 63, 64):
            calls = SILENT + [self.read(many), forget_call(1)]
            self.assertEqual(ask(calls)[-1], [many])
            self.check_told(calls, 1, [0, many + 1, 0, 0, 1])

    def test_keys_of_several_chains(self):
        calls = SILENT + [self.read(2), write_call(1)]
        first = Partner(A0, public_key(B0))
        self.partner.answered(B1, A1)
        calls += [self.read(4, B2, before=6), self.read(1), forget_call(1)]
        self.assertEqual(ask(calls)[-1], [2 + 3 + 3])
        self.check_told(calls, 1, [0, 5, 1, 0, 1])
        gone = [self.read(number) for number in (0, 2, 3)]
        self.check_refused(calls, gone, -4, [self.read(5)])
        # Its public key isn't their public key any more: now it's a new one, and the tag is wrong on its chain.
        gone = [read_call(1, first.letter(number)) for number in (0, 1, 3, 4, 5)]
        self.check_refused(calls, gone, -4, [self.read(5), self.read(7), self.read(6)])

    def test_twice(self):
        for many in (0, 3, 64):
            result = ask(SILENT + [self.read(many), forget_call(1), forget_call(1), forget_call(1)])
            self.assertEqual(result[2:], [[many], [0], [0]])

    def test_the_keys_are_gone_and_the_end_goes_on(self):
        calls = SILENT + [self.read(4), self.read(2), forget_call(1)]
        self.assertEqual(ask(calls)[-1], [3])
        self.check_refused(calls, [self.read(number) for number in (0, 1, 2, 3, 4)], -4, [self.read(5), write_call(1)])
        self.check_read(calls + [self.read(5)], b"text")
        self.check_told(calls + [self.read(5), self.read(8)], 1, [0, 9, 0, 2, 1])
        self.check_read(calls + [self.read(5), self.read(8), self.read(6)], b"text")

    def test_it_makes_room(self):
        full = SILENT + [self.read(64)]
        self.assertEqual(ask(full + [self.read(66)])[-1], [-5])
        calls = full + [forget_call(1)]
        self.check_refused(calls, [self.read(130)], -5, [self.read(129), self.read(65)])
        self.check_told(calls + [self.read(129)], 1, [0, 130, 0, 64, 1])
        self.assertEqual(ask(calls + [self.read(129), forget_call(1), self.read(130)])[-2:], [[64], counted(b"text")])

    def test_it_leaves_all_but_the_keys(self):
        ahead = SILENT + [self.read(0), write_call(1), write_call(1)]
        self.partner.answered(B1, A1)
        ahead += [self.read(2, B2, before=1), write_call(1)]
        tell = [told_call(1, what) for what in (0, 1, 2, 4)] + [own_call(1)]
        behind = tell + [write_call(1, b"more"), self.read(3), self.read(4)] + tell
        result = ask(ahead + [forget_call(1)] + behind)
        start = len(ahead)
        self.assertEqual(result[start], [2])
        self.assertEqual(result[:start] + result[start + 1:], ask(ahead + behind))

    def test_the_other_end_keeps_its_keys(self):
        calls = SILENT + [self.read(3)] + [init_call(0, 0, B0, ZEROS), read_call(0, self.partner.letter(5))]
        result = ask(calls + [forget_call(0), told_call(0, 3), told_call(1, 3), self.read(1), forget_call(1)])
        self.assertEqual(result[4:], [[5], [0], [3], counted(b"text"), [2]])

    def test_a_letter_that_comes_behind_it_and_is_refused(self):
        # What is forgotten stays forgotten: the refused letter brings no keys back.
        calls = SILENT + [self.read(3), forget_call(1)]
        self.check_refused(calls, [self.wrong(6), self.wrong(0)], -4, [self.read(0), forget_call(1), self.read(4)])
        self.check_told(calls + [self.wrong(6)], 1, [0, 4, 0, 0, 1])


class Own(ToldCase):
    def check_own(self, calls, end, secret):
        self.assertEqual(ask(calls + [own_call(end)])[-1], [0] + public_key(secret))

    def test_a_new_end(self):
        self.check_own(SILENT, 1, B0)
        self.check_own(WRITER, 0, A0)
        self.check_own([init_call(0, 0, ZEROS, ZEROS)], 0, ZEROS)
        self.check_own([init_call(1, 0, [255] * 32, ZEROS)], 1, [255] * 32)

    def test_published_key(self):
        secret = list(bytes.fromhex("77076d0a7318a57d3c16c17251b26645df4c2f87ebc0992ab177fba51db92c2a"))
        public = list(bytes.fromhex("8520f0098930a754748b7ddcb43ef75a0dbf3a0d26381af4eba4a98eaa9b4e6a"))
        self.assertEqual(ask([init_call(0, 0, secret, ZEROS), own_call(0)]), [[0], [0] + public])

    def test_a_letter_with_a_new_public_key(self):
        calls = SILENT + [self.read(1, B1)]
        self.check_own(calls, 1, B1)
        calls += [self.read(2, A2), self.read(0, A2), write_call(1), forget_call(1)]
        self.check_own(calls, 1, B1)
        self.partner.answered(B1, A1)
        calls.append(self.read(0, B2, before=3))
        self.check_own(calls, 1, B2)

    def test_behind_first_1(self):
        root = Partner(A0, public_key(B0)).root
        calls = WRITER + [write_call(0)]
        self.check_own(calls, 0, A0)
        self.check_own(calls + [read_call(0, Partner(B1, public_key(A0), root).letter(0), fresh=A1)], 0, A1)

    def test_a_letter_that_was_refused(self):
        self.check_own(SILENT + [self.wrong(0, B1)], 1, B0)
        self.check_own(SILENT + [self.read(65, B1)], 1, B0)
        self.check_own(SILENT + [read_call(1, [], fresh=B1)], 1, B0)
        self.check_own(SILENT + [read_call(1, [0] * 56, fresh=B1)], 1, B0)
        calls = SILENT + [self.read(0, B1)]
        self.partner.answered(B1, A1)
        self.check_own(calls + [self.wrong(0, B2, 1), self.read(64, B2, 2)], 1, B1)

    def test_it_is_what_letters_have(self):
        result = ask(SILENT + [self.read(0, B1), own_call(1), write_call(1), own_call(1)])
        self.assertEqual(result[2], result[4])
        self.assertEqual(result[3][1:33], result[2][1:])

    def test_init_anew(self):
        self.check_own(SILENT + [self.read(0, B1), init_call(1, 1, A1, public_key(B2))], 1, A1)
        self.check_own(SILENT + [self.read(0, B1), init_call(1, 0, A2, ZEROS)], 1, A2)
        self.check_own(SILENT + [self.read(0, B1), init_call(1, 1, A1, ZEROS)], 1, B1)
        self.check_own(SILENT + [self.read(0, B1), init_call(1, 5, A1, public_key(B2))], 1, B1)

    def test_the_other_end_has_its_own(self):
        result = ask(SILENT + WRITER + [own_call(0), own_call(1), self.read(0, B1), own_call(0), own_call(1)])
        keys = [[0] + public_key(secret) for secret in (A0, B0, A0, B1)]
        self.assertEqual(result[2:4] + result[5:], keys)
