"""Points 2 and 3."""

from tests.helper import (
    A0, A1, B0, B1, LOW_ORDER, ZEROS, EndsCase, Partner, ask, init_call, key_call, public_key, read_call, row, write_call,
)

A0_PUBLIC = "358072d6365880d1aeea329adf9121383851ed21a28e3b75e965d0d2cd166254"
B0_PUBLIC = "79a631eede1bf9c98f12032cdeadd0e7a079398fc786b88cc846ec89af85a51a"


class Key(EndsCase):
    def test_public_keys(self):
        self.assertEqual(ask([key_call(A0)]), [[0] + row(A0_PUBLIC)])
        self.assertEqual(ask([key_call(B0)]), [[0] + row(B0_PUBLIC)])

    def test_published_secret(self):
        secret = row("77076d0a7318a57d3c16c17251b26645df4c2f87ebc0992ab177fba51db92c2a")
        public = row("8520f0098930a754748b7ddcb43ef75a0dbf3a0d26381af4eba4a98eaa9b4e6a")
        self.assertEqual(ask([key_call(secret)]), [[0] + public])

    def test_every_secret_is_taken(self):
        for secret in (ZEROS, [255] * 32):
            answer = ask([key_call(secret)])[0]
            self.assertEqual(len(answer), 33)
            self.assertEqual(answer, [0] + public_key(secret))

    def test_it_changes_no_end(self):
        ahead = [init_call(0, 1, A0, public_key(B0))]
        whole = ask(ahead + [key_call(B1), write_call(0)])
        self.assertEqual([whole[0], whole[2]], ask(ahead + [write_call(0)]))


class First0(EndsCase):
    def test_it_has_no_chain_to_write_on(self):
        self.assertEqual(ask([init_call(0, 0, B0, ZEROS), write_call(0)]), [[0], [-3]])

    def test_its_root_is_the_secret_and_own_is_own(self):
        letter = Partner(A0, public_key(B0)).letter(0, b"text")
        self.check_read([init_call(0, 0, B0, ZEROS), read_call(0, letter)], b"text")
        self.assertEqual(ask([init_call(0, 0, B0, ZEROS, A1), read_call(0, letter)])[1], [-4])
        self.assertEqual(ask([init_call(0, 0, B1, ZEROS), read_call(0, letter)])[1], [-4])

    def test_their_does_not_count(self):
        letter = Partner(A0, public_key(B0)).letter(0)
        behind = [read_call(1, letter), write_call(1, b"text")]
        expected = ask([init_call(1, 0, B0, ZEROS)] + behind)
        for their in LOW_ORDER + [public_key(A0), public_key(B0)]:
            self.assertEqual(ask([init_call(1, 0, B0, their)] + behind), expected)


class First1(EndsCase):
    def test_its_chain_comes_from_the_root_by_x(self):
        partner = Partner(A0, public_key(B0))
        self.assertEqual(
            ask([init_call(0, 1, A0, public_key(B0)), write_call(0, b"text", b"beside")]),
            [[0], [60] + partner.letter(0, b"text", b"beside")],
        )

    def test_zeros_out_of_x(self):
        for their in LOW_ORDER:
            self.assertEqual(ask([init_call(0, 1, A0, their)]), [[-4]])

    def test_their_key_is_known_but_has_no_chain(self):
        # A letter of their public key makes a chain to read on and a new own, as any other would.
        root = Partner(A0, public_key(B0)).root
        letter = Partner(B0, public_key(A0), root).letter(2, b"text", before=7)
        calls = [init_call(0, 1, A0, public_key(B0)), write_call(0), read_call(0, letter, fresh=A1), write_call(0)]
        result = ask(calls)
        self.assertEqual(result[2], [4] + list(b"text"))
        self.assertEqual(result[3][1:41], public_key(A1) + [0, 0, 0, 1] + [0, 0, 0, 0])


class Anew(EndsCase):
    def setUp(self):
        self.partner = Partner(A0, public_key(B0))
        self.ahead = [
            init_call(0, 0, B0, ZEROS),
            read_call(0, self.partner.letter(2)),
            write_call(0),
            write_call(0),
        ]

    def test_first_0_anew(self):
        anew = [init_call(0, 0, B0, ZEROS)]
        letter = self.partner.letter
        behind = [write_call(0), read_call(0, letter(1)), write_call(0), read_call(0, letter(0))]
        self.assertEqual(ask(self.ahead + anew + behind)[4:], ask(anew + behind))

    def test_first_1_anew(self):
        anew = [init_call(0, 1, A1, public_key(B1))]
        letter = self.partner.letter
        behind = [write_call(0), read_call(0, letter(1)), write_call(0), read_call(0, letter(3))]
        result = ask(self.ahead + anew + behind)[4:]
        self.assertEqual(result, ask(anew + behind))
        self.assertEqual(result[0], [0])
        self.assertEqual(result[2], [-4])

    def test_no_keys_are_kept(self):
        anew = [init_call(0, 1, A1, public_key(B1))]
        kept = [read_call(0, self.partner.letter(0))]
        self.assertEqual(ask(self.ahead + kept)[-1], [0])
        self.assertEqual(ask(self.ahead + anew + kept)[-1], [-4])

    def test_the_other_end_stays(self):
        ahead = [init_call(1, 1, A0, public_key(B0)), write_call(1)]
        whole = ask(ahead + [init_call(0, 1, B0, public_key(A0)), write_call(1)])
        self.assertEqual([whole[0], whole[1], whole[3]], ask(ahead + [write_call(1)]))

    def test_refused_anew(self):
        behind = [
            write_call(0),
            read_call(0, self.partner.letter(0, b"kept")),
            read_call(0, self.partner.letter(3, b"next")),
            write_call(0),
        ]
        self.check_refused(self.ahead, [init_call(0, 1, A1, their) for their in LOW_ORDER], -4, behind)
        wrong = [init_call(0, first, A1, public_key(B1)) for first in (-1, 2, 2147483647, -2147483648)]
        self.check_refused(self.ahead, wrong, -2, behind)

    def test_wrong_arguments_are_told_first(self):
        self.assertEqual(ask([init_call(0, 2, A1, ZEROS), init_call(1, -1, A1, ZEROS)]), [[-2], [-2]])
