"""Point 4."""

from keysgoon.letters import write_letter
from keysgoon.refusals import NothingToWriteOn
from keysgoon.state import End
from tests.helper import (
    A0, A1, B0, B1, SECRET, ZEROS, EndsCase, Partner, ask, hkdf, init_call, mac, public_key, read_call, row,
    sealed, write_call, x25519,
)

BEGIN = [init_call(0, 1, A0, public_key(B0)), init_call(1, 0, B0, ZEROS)]


class NothingYet(EndsCase):
    def test_refused_until_a_letter_is_read(self):
        letter = Partner(A0, public_key(B0)).letter(0)
        behind = [read_call(1, letter), write_call(1, b"text")]
        refused = [write_call(1), write_call(1, b"text", b"beside")]
        self.check_refused(BEGIN, refused, -3, behind)
        self.assertEqual(ask(BEGIN + behind)[-1][0], 60)

    def test_a_letter_that_is_refused_gives_nothing_to_write_on(self):
        letter = Partner(A0, public_key(B0)).letter(0)
        wrong = letter[:-1] + [letter[-1] ^ 1]
        self.assertEqual(ask(BEGIN + [read_call(1, wrong), write_call(1)])[2:], [[-4], [-3]])

    def test_2147483647_written(self):
        # No list of calls gets there.
        end = End(list(SECRET), list(A0))
        end.begin(public_key(B0))
        end.written = 2147483646
        chain = end.write_chain
        self.assertEqual(write_letter(end, [], [])[36:40], [127, 255, 255, 254])
        self.assertNotEqual(end.write_chain, chain)
        self.assertEqual(end.written, 2147483647)
        chain = end.write_chain
        self.assertRaises(NothingToWriteOn, write_letter, end, [], [])
        self.assertEqual((end.written, end.write_chain), (2147483647, chain))


class Letter(EndsCase):
    def test_known_letters(self):
        # Made with other implementations of all that is used.
        self.assertEqual(
            ask(BEGIN + [write_call(0, b"first"), write_call(0, b"", b"beside")])[2:],
            [
                [61] + row(
                    "358072d6365880d1aeea329adf9121383851ed21a28e3b75e965d0d2cd166254" "00000000" "00000000"
                    "78a30b3354" "063b900e4a0df505742ca53cfd1b9a0b"
                ),
                [56] + row(
                    "358072d6365880d1aeea329adf9121383851ed21a28e3b75e965d0d2cd166254" "00000000" "00000001"
                    "cc8b12577320734a6ab8ff600659f938"
                ),
            ],
        )

    def test_its_parts(self):
        both = hkdf(bytes(SECRET), bytes(x25519(A0, public_key(B0))), b"root")
        pair = hkdf(bytes(32), mac(both[32:], b"\1"), b"letter")
        answer = ask(BEGIN + [write_call(0, b"text of 16 bytes", b"beside")])[2]
        head = public_key(A0) + [0] * 8
        self.assertEqual(len(answer), 73)
        self.assertEqual(answer[0], 72)
        self.assertEqual(answer[1:41], head)
        self.assertEqual(
            answer[41:],
            sealed(list(pair[:32]), list(pair[32:44]), list(b"beside") + head, list(b"text of 16 bytes")),
        )

    def test_the_chain_goes_on(self):
        partner = Partner(A0, public_key(B0))
        texts = [bytes([k] * k) for k in range(12)]
        expected = [[k + 56] + partner.letter(k, text) for k, text in enumerate(texts)]
        self.assertEqual(ask(BEGIN + [write_call(0, text) for text in texts])[2:], expected)
        self.assertEqual([answer[37:41] for answer in expected], [[0, 0, 0, k] for k in range(12)])

    def test_the_same_text_is_never_sealed_the_same(self):
        letters = [answer[41:] for answer in ask(BEGIN + [write_call(0, b"text")] * 5)[2:]]
        self.assertEqual(len({tuple(letter) for letter in letters}), 5)

    def test_more_than_255_letters(self):
        answers = ask(BEGIN + [write_call(0)] * 260)[2:]
        self.assertEqual(answers[259][33:41], [0, 0, 0, 0, 0, 0, 1, 3])

    def test_no_bytes_and_many(self):
        partner = Partner(A0, public_key(B0))
        much = [k % 251 for k in range(4096)]
        sizes = [(0, 0), (0, 4096), (1, 0), (15, 1), (16, 16), (17, 15), (1000, 4096)]
        calls = []
        expected = []
        for number, (size, beside_size) in enumerate(sizes):
            text = [(3 * k) % 256 for k in range(size)]
            calls.append(write_call(0, text, much[:beside_size]))
            expected.append([size + 56] + partner.letter(number, text, much[:beside_size]))
        self.assertEqual(ask(BEGIN + calls)[2:], expected)

    def test_the_longest_text(self):
        text = [k % 256 for k in range(29000)]
        answer = ask([BEGIN[0], write_call(0, text)])[1]
        self.assertEqual(answer, [29056] + Partner(A0, public_key(B0)).letter(0, text))

    def test_how_many_were_written_before(self):
        first = Partner(A0, public_key(B0))
        calls = BEGIN + [read_call(1, first.letter(0), fresh=B1), write_call(1), write_call(1), write_call(1)]
        first.answered(B1, A1)
        calls += [read_call(1, first.letter(0, before=1)), write_call(1), write_call(1)]
        result = ask(calls)
        self.assertEqual([answer[33:41] for answer in result[3:6]], [[0] * 7 + [k] for k in range(3)])
        self.assertEqual([answer[33:41] for answer in result[7:9]], [[0, 0, 0, 3, 0, 0, 0, k] for k in range(2)])

    def test_reading_on_the_same_chain_leaves_the_one_written_on(self):
        partner = Partner(A0, public_key(B0))
        ahead = BEGIN + [read_call(1, partner.letter(0)), write_call(1)]
        between = [read_call(1, partner.letter(k)) for k in (1, 4, 2)]
        result = ask(ahead + between + [write_call(1)])
        self.assertEqual(result[4:7], [[0]] * 3)
        self.assertEqual(result[7], ask(ahead + [write_call(1)])[4])
