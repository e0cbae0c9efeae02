"""The interface: one list of whole numbers in, one out."""

from keysgoon.ends import answers
from tests.helper import (
    A0, A1, B0, B1, ZEROS, EndsCase, Partner, ask, counted, init_call, key_call, public_key, read_call, write_call,
)


def flat(calls):
    return [number for call in calls for number in call]


def conversation():
    partner = Partner(A0, public_key(B0))
    return [
        key_call(B1),
        write_ready(0),
        init_call(1, 0, B0, ZEROS),
        init_call(1, 2, B0, ZEROS),
        write_call(1),
        write_call(0, b"zero", b"beside"),
        read_call(1, partner.letter(0, b"zero", b"beside"), b"beside"),
        read_call(1, partner.letter(66)),
        read_call(1, partner.letter(2, b"two")),
        read_call(1, partner.letter(2, b"two")),
        read_call(1, []),
        write_call(1, b"answer"),
        init_call(0, 1, A1, ZEROS),
        write_call(0),
        read_call(1, partner.letter(1)),
    ]


def write_ready(end):
    return init_call(end, 1, A0, public_key(B0))


class Interface(EndsCase):
    def test_several_calls_on_both_ends(self):
        result = ask(conversation())
        firsts = [answer[0] for answer in result]
        self.assertEqual(firsts, [0, 0, 0, -2, -3, 60, 4, -5, 3, -4, -2, 62, -4, 56, 0])

    def test_how_many_numbers_are_answered(self):
        result = answers(flat(conversation()))
        counts = []
        place = 0
        while place < len(result):
            counts.append(result[place])
            place += 1 + result[place]
        self.assertEqual(place, len(result))
        self.assertEqual(counts, [33, 1, 1, 1, 1, 61, 5, 1, 4, 1, 1, 63, 1, 57, 1])

    def test_one_call(self):
        self.assertEqual(answers(key_call(A0)), [33, 0] + public_key(A0))
        self.assertEqual(answers(init_call(0, 0, B0, ZEROS)), [1, 0])
        self.assertEqual(answers(init_call(0, -1, B0, ZEROS)), [1, -2])

    def test_only_whole_numbers_come_out(self):
        result = answers(flat(conversation()))
        self.assertIs(type(result), list)
        self.assertEqual({type(number) for number in result}, {int})

    def test_what_is_handed_in_is_not_changed(self):
        calls = flat(conversation())
        before = list(calls)
        answers(calls)
        self.assertEqual(calls, before)

    def test_what_is_handed_in_is_not_changed_for_a_while_either(self):
        calls = Watched(flat(conversation()))
        self.assertEqual(answers(calls), answers(list(calls)))

    def test_the_answer_is_not_what_was_handed_in(self):
        calls = flat(conversation())
        expected = answers(calls)
        result = answers(calls)
        result.clear()
        self.assertEqual(answers(calls), expected)

    def test_nothing_is_kept_from_one_time_to_the_next(self):
        calls = flat(conversation())
        expected = answers(calls)
        answers(init_call(1, 0, A1, ZEROS))
        answers(flat([init_call(0, 1, A1, public_key(B0)), write_call(0), write_call(0)]))
        self.assertEqual(answers(calls), expected)

    def test_two_ends_are_two(self):
        ahead = [init_call(0, 1, A0, public_key(B0)), init_call(1, 1, A0, public_key(B0))]
        result = ask(ahead + [write_call(0), write_call(0), write_call(1), write_call(0), write_call(1)])
        letters = [counted(Partner(A0, public_key(B0)).letter(k)) for k in range(3)]
        self.assertEqual(result[2:], [letters[0], letters[1], letters[0], letters[2], letters[1]])

    def test_400_calls(self):
        partner = Partner(A0, public_key(B0))
        calls = [init_call(0, 1, A0, public_key(B0))] + [write_call(0)] * 399
        result = ask(calls)
        self.assertEqual(len(result), 400)
        self.assertEqual(result[399], counted(partner.letter(398)))

    def test_longer_than_the_words_allow(self):
        # No list that may be handed in is as long; the words' ranges hold all the same.
        ahead = [write_ready(0)]
        result = ask(ahead + [write_call(0, [0] * 65537), write_call(0, b"", [0] * 4097), write_call(0)])
        self.assertEqual(result[1:3], [[-2], [-2]])
        self.assertEqual(result[3], counted(Partner(A0, public_key(B0)).letter(0)))
        result = ask(ahead + [read_call(0, [0] * 65593), read_call(0, [0] * 56, [0] * 4097), read_call(0, [0] * 55)])
        self.assertEqual(result[1:], [[-2]] * 3)


class Watched(list):
    """A list that can't be changed."""

    def refuse(self, *arguments):
        raise AssertionError("the list was changed")

    append = clear = extend = insert = pop = remove = reverse = sort = refuse
    __setitem__ = __delitem__ = __iadd__ = __imul__ = refuse
