"""Point 1."""

from tests.helper import (
    A0, A1, B0, B1, B2, LOW_ORDER, ZEROS, EndsCase, Partner, all_told, ask, counted, forget_call, init_call, public_key,
    read_call, told_call, write_call,
)

LEAST = -2147483648
MOST = 2147483647
NOT_FIRST = (-1, 2, 3, 255, 256, LEAST, LEAST + 1, MOST - 1, MOST)
NOT_WHAT = (-1, 5, 6, -5, 256, LEAST, LEAST + 1, MOST - 1, MOST)


class ArgumentsCase(EndsCase):
    def setUp(self):
        self.partner = Partner(A0, public_key(B0))
        self.writer = [init_call(0, 1, A0, public_key(B0)), write_call(0)]
        self.silent = [init_call(1, 0, B0, ZEROS)]
        self.reader = self.silent + [read_call(1, self.partner.letter(2)), write_call(1), write_call(1)]
        self.more = [
            write_call(1, b"more"),
            read_call(1, self.partner.letter(1, b"kept")),
            read_call(1, self.partner.letter(3, b"next")),
            told_call(1, 3),
            forget_call(1),
        ]


class First(ArgumentsCase):
    def test_on_a_new_end(self):
        for end in (0, 1):
            for first in NOT_FIRST:
                self.assertEqual(ask([init_call(end, first, A0, public_key(B0))]), [[-2]])

    def test_0_and_1(self):
        for end in (0, 1):
            for first in (0, 1):
                self.assertEqual(ask([init_call(end, first, A0, public_key(B0))]), [[0]])

    def test_an_end_that_is_there_stays(self):
        wrong = [init_call(1, first, A1, public_key(B1)) for first in NOT_FIRST]
        self.check_refused(self.reader, wrong, -2, self.more)
        self.check_refused(self.silent, wrong, -2, [read_call(1, self.partner.letter(0, b"text")), write_call(1)])
        wrong = [init_call(0, first, A1, public_key(B1)) for first in NOT_FIRST]
        self.check_refused(self.writer, wrong, -2, [write_call(0, b"more")])

    def test_the_other_end_stays(self):
        wrong = [init_call(0, first, A1, public_key(B1)) for first in NOT_FIRST]
        self.check_refused(self.reader, wrong, -2, self.more)

    def test_ahead_of_zeros_out_of_x(self):
        for their in LOW_ORDER:
            wrong = [init_call(1, first, A1, their) for first in NOT_FIRST]
            self.assertEqual(ask(wrong), [[-2]] * len(NOT_FIRST))
            self.assertEqual(ask([init_call(1, 1, A1, their)]), [[-4]])
        wrong = [init_call(1, 2, A1, their) for their in LOW_ORDER]
        self.check_refused(self.reader, wrong, -2, self.more)


class Letter(ArgumentsCase):
    def test_no_bytes(self):
        wrong = [read_call(1, []), read_call(1, [], b"beside", B2), read_call(1, [], [0] * 4096, ZEROS)]
        self.check_refused(self.silent, wrong, -2, [read_call(1, self.partner.letter(0, b"text")), write_call(1)])
        self.check_refused(self.reader, wrong, -2, self.more)
        wrong = [read_call(0, []), read_call(0, [], b"beside", B2)]
        self.check_refused(self.writer, wrong, -2, [write_call(0, b"more")])

    def test_no_bytes_where_nothing_could_be_read(self):
        # Neither a chain to read on nor a public key; then as many keys kept as may be.
        self.check_refused(self.silent, [read_call(1, [])], -2, [write_call(1)])
        full = self.silent + [read_call(1, self.partner.letter(64))]
        self.assertEqual(ask(full + [read_call(1, self.partner.letter(66))])[-1], [-5])
        self.check_refused(full, [read_call(1, [])], -2, [read_call(1, self.partner.letter(0, b"kept"))])

    def test_the_fewest_bytes(self):
        self.assertEqual(ask(self.silent + [read_call(1, [0] * 56)])[-1], [-4])
        self.check_read(self.silent + [read_call(1, self.partner.letter(0))], b"")

    def test_sizes_that_no_list_hands_in(self):
        wrong = [read_call(1, [0] * size) for size in (1, 39, 40, 55, 65593)] + [read_call(1, [0] * 56, [0] * 4097)]
        self.check_refused(self.reader, wrong, -2, self.more)
        wrong = [write_call(1, [0] * 65537), write_call(1, b"", [0] * 4097), write_call(1, [0] * 65537, [0] * 4097)]
        self.check_refused(self.reader, wrong, -2, self.more)
        # Where there's nothing to write on either.
        self.check_refused(self.silent, wrong, -2, [write_call(1)])


class What(ArgumentsCase):
    def test_wrong_ones(self):
        wrong = [told_call(1, what) for what in NOT_WHAT]
        self.check_refused(self.silent, wrong, -2, [read_call(1, self.partner.letter(0, b"text")), write_call(1)])
        self.check_refused(self.reader, wrong, -2, self.more)
        self.check_refused(self.writer, [told_call(0, what) for what in NOT_WHAT], -2, [write_call(0, b"more")])

    def test_0_to_4(self):
        result = ask(self.reader + [told_call(1, what) for what in range(-1, 6)])[len(self.reader):]
        self.assertEqual(result, [[-2], [2], [3], [0], [2], [1], [-2]])


class Together(ArgumentsCase):
    def test_the_next_call_begins_behind_a_refused_one(self):
        calls = [
            init_call(0, 2, A0, ZEROS),
            init_call(0, 1, A0, public_key(B0)),
            told_call(0, 5),
            read_call(0, [], b"beside"),
            write_call(0, b"text"),
            init_call(0, -1, A0, public_key(B0)),
            told_call(0, -1),
            told_call(0, 0),
        ]
        letter = self.partner.letter(0, b"text")
        self.assertEqual(ask(calls), [[-2], [0], [-2], [-2], counted(letter), [-2], [-2], [1]])

    def test_all_refusals_one_behind_another(self):
        letter = self.partner.letter(66)
        refusals = [
            (told_call(1, 5), -2),
            (write_call(1), -3),
            (read_call(1, self.partner.letter(0)[:-1] + [0]), -4),
            (read_call(1, letter), -5),
            (init_call(1, 1, A0, ZEROS), -4),
            (init_call(1, 7, A0, ZEROS), -2),
            (read_call(1, []), -2),
        ]
        result = ask(self.silent + [call for call, number in refusals] + all_told(1))
        self.assertEqual(result[1:-6], [[number] for call, number in refusals])
        self.assertEqual(result[-6:], [[0], [0], [0], [0], [0], [0] + public_key(B0)])
