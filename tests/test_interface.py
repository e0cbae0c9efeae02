"""The interface: one list of whole numbers in, one out."""

from keysgoon.ends import answers
from tests.helper import (
    A0, A1, A2, B0, B1, B2, ZEROS, EndsCase, Partner, all_told, ask, counted, forget_call, init_call, key_call,
    own_call, public_key, read_call, told_call, write_call,
)


def flat(calls):
    return [number for call in calls for number in call]


def conversation():
    partner = Partner(A0, public_key(B0))
    return [
        key_call(B1),
        write_ready(0),
        init_call(1, 0, B0, ZEROS),
        init_call(1, 2, B0, ZEROS),
        write_call(1),
        write_call(0, b"zero", b"beside"),
        read_call(1, partner.letter(0, b"zero", b"beside"), b"beside"),
        read_call(1, partner.letter(66)),
        read_call(1, partner.letter(2, b"two")),
        read_call(1, partner.letter(2, b"two")),
        read_call(1, []),
        write_call(1, b"answer"),
        init_call(0, 1, A1, ZEROS),
        write_call(0),
        told_call(0, 0),
        told_call(1, 3),
        told_call(1, 5),
        read_call(1, partner.letter(1)),
        own_call(0),
        own_call(1),
        forget_call(0),
        forget_call(1),
    ]


def seven_calls(end):
    """Each of the seven calls on one end, those that refuse too; the first fails, the second makes the end."""
    partner = Partner(A0, public_key(B0))
    calls = [init_call(end, 3, B0, ZEROS), init_call(end, 0, B0, ZEROS)] + all_told(end)
    calls += [write_call(end), read_call(end, partner.letter(3, b"three")), read_call(end, partner.letter(1, b"one"))]
    calls += all_told(end) + [key_call(A1), write_call(end, b"text", b"beside"), write_call(end)]
    partner.answered(B1, A1)
    calls += [read_call(end, partner.letter(2, b"two", before=5), fresh=B2), told_call(end, 9)] + all_told(end)
    calls += [forget_call(end), read_call(end, partner.letter(0)), read_call(end, []), write_call(end, b"more")]
    calls += all_told(end) + [init_call(end, 1, A2, public_key(B0)), write_call(end)] + all_told(end)
    return calls


def on_end(calls, end):
    """The same calls on that end."""
    return [call if call[0] == 0 else [call[0], end] + call[2:] for call in calls]


def counts_of(result):
    counts = []
    place = 0
    while place < len(result):
        counts.append(result[place])
        place += 1 + result[place]
    assert place == len(result)
    return counts


def write_ready(end):
    return init_call(end, 1, A0, public_key(B0))


class Interface(EndsCase):
    def test_several_calls_on_both_ends(self):
        result = ask(conversation())
        firsts = [answer[0] for answer in result]
        expected = [0, 0, 0, -2, -3, 60, 4, -5, 3, -4, -2, 62, -4, 56]
        self.assertEqual(firsts, expected + [2, 1, -2, 0, 0, 0, 0, 0])

    def test_how_many_numbers_are_answered(self):
        counts = [33, 1, 1, 1, 1, 61, 5, 1, 4, 1, 1, 63, 1, 57]
        self.assertEqual(counts_of(answers(flat(conversation()))), counts + [1, 1, 1, 1, 33, 33, 1, 1])
        tell = [1, 1, 1, 1, 1, 33]
        counts = [1, 1] + tell + [1, 6, 4] + tell + [33, 61, 57, 4, 1] + tell + [1, 1, 1, 61] + tell + [1, 57] + tell
        self.assertEqual(counts_of(answers(flat(seven_calls(0)))), counts)

    def test_one_call(self):
        self.assertEqual(answers(key_call(A0)), [33, 0] + public_key(A0))
        self.assertEqual(answers(init_call(0, 0, B0, ZEROS)), [1, 0])
        self.assertEqual(answers(init_call(0, -1, B0, ZEROS)), [1, -2])

    def test_only_whole_numbers_come_out(self):
        result = answers(flat(conversation()))
        self.assertIs(type(result), list)
        self.assertEqual({type(number) for number in result}, {int})

    def test_what_is_handed_in_is_not_changed(self):
        calls = flat(conversation())
        before = list(calls)
        answers(calls)
        self.assertEqual(calls, before)

    def test_what_is_handed_in_is_not_changed_for_a_while_either(self):
        calls = Watched(flat(conversation() + seven_calls(0) + seven_calls(1)))
        self.assertEqual(answers(calls), answers(list(calls)))

    def test_the_answer_is_not_what_was_handed_in(self):
        calls = flat(conversation())
        expected = answers(calls)
        result = answers(calls)
        result.clear()
        self.assertEqual(answers(calls), expected)

    def test_nothing_is_kept_from_one_time_to_the_next(self):
        calls = flat(conversation())
        expected = answers(calls)
        answers(init_call(1, 0, A1, ZEROS))
        answers(flat([init_call(0, 1, A1, public_key(B0)), write_call(0), write_call(0)]))
        self.assertEqual(answers(calls), expected)

    def test_two_ends_are_two(self):
        ahead = [init_call(0, 1, A0, public_key(B0)), init_call(1, 1, A0, public_key(B0))]
        result = ask(ahead + [write_call(0), write_call(0), write_call(1), write_call(0), write_call(1)])
        letters = [counted(Partner(A0, public_key(B0)).letter(k)) for k in range(3)]
        self.assertEqual(result[2:], [letters[0], letters[1], letters[0], letters[2], letters[1]])

    def test_seven_calls_on_one_end(self):
        result = ask(seven_calls(1))
        keys = [[0] + public_key(secret) for secret in (B0, B1, B2, A2)]
        self.assertEqual({call[0] for call in seven_calls(1)}, set(range(7)))
        self.assertEqual(result[:2] + result[8:11], [[-2], [0], [-3], counted(b"three"), counted(b"one")])
        self.assertEqual(result[2:8], [[0], [0], [0], [0], [0], keys[0]])
        self.assertEqual(result[11:17], [[0], [4], [0], [2], [1], keys[1]])
        self.assertEqual([answer[0] for answer in result[17:22]], [0, 60, 56, 3, -2])
        self.assertEqual(result[22:28], [[0], [3], [2], [2 + 1 + 2], [1], keys[2]])
        self.assertEqual([answer[0] for answer in result[28:32]], [5, -4, -2, 60])
        self.assertEqual(result[32:38], [[1], [3], [2], [0], [1], keys[2]])
        self.assertEqual([answer[0] for answer in result[38:40]], [0, 56])
        self.assertEqual(result[40:], [[1], [0], [0], [0], [1], keys[3]])

    def test_either_end_answers_the_same(self):
        self.assertEqual(on_end(seven_calls(0), 1), seven_calls(1))
        self.assertEqual(ask(seven_calls(0)), ask(seven_calls(1)))

    def test_the_ends_are_independent(self):
        one = seven_calls(0)
        root = Partner(A0, public_key(B0)).root
        letter = Partner(B1, public_key(A0), root).letter
        other = [init_call(1, 1, A0, public_key(B0)), write_call(1, b"text"), read_call(1, letter(4), fresh=A1)]
        other += all_told(1) + [read_call(1, letter(70)), read_call(1, letter(2)), forget_call(1), write_call(1)]
        other += all_told(1) + [init_call(1, 0, B2, ZEROS), write_call(1)] + all_told(1)
        alone = [ask(one), ask(other)]
        # One call of the one and one of the other in turn; then all of the one ahead of all of the other.
        mixed = []
        for place in range(max(len(one), len(other))):
            mixed += one[place:place + 1] + other[place:place + 1]
        for calls in (mixed, one + other, other + one):
            result = ask(calls)
            own = [answer for call, answer in zip(calls, result) if call[0] == 0 or call[1] == 0]
            self.assertEqual(own, alone[0])
            self.assertEqual([answer for call, answer in zip(calls, result) if call[0] > 0 and call[1] == 1], alone[1])

    def test_the_same_list_a_second_time(self):
        calls = flat(seven_calls(0) + seven_calls(1) + conversation())
        before = list(calls)
        expected = answers(calls)
        self.assertEqual(answers(calls), expected)
        self.assertEqual(answers(list(calls)), expected)
        self.assertEqual(calls, before)

    def test_400_of_all_calls(self):
        calls = seven_calls(0) + seven_calls(1)
        again = 400 // len(calls)
        rest = 400 - again * len(calls)
        result = ask(calls * again + calls[:rest])
        self.assertEqual(len(result), 400)
        # Each time the dr_init that comes anew leaves nothing of what was.
        self.assertEqual(result, ask(calls) * again + ask(calls)[:rest])

    def test_400_calls(self):
        partner = Partner(A0, public_key(B0))
        calls = [init_call(0, 1, A0, public_key(B0))] + [write_call(0)] * 399
        result = ask(calls)
        self.assertEqual(len(result), 400)
        self.assertEqual(result[399], counted(partner.letter(398)))

    def test_longer_than_the_words_allow(self):
        # No list that may be handed in is as long; the words' ranges hold all the same.
        ahead = [write_ready(0)]
        result = ask(ahead + [write_call(0, [0] * 65537), write_call(0, b"", [0] * 4097), write_call(0)])
        self.assertEqual(result[1:3], [[-2], [-2]])
        self.assertEqual(result[3], counted(Partner(A0, public_key(B0)).letter(0)))
        result = ask(ahead + [read_call(0, [0] * 65593), read_call(0, [0] * 56, [0] * 4097), read_call(0, [0] * 55)])
        self.assertEqual(result[1:], [[-2]] * 3)


class Watched(list):
    """A list that can't be changed."""

    def refuse(self, *arguments):
        raise AssertionError("the list was changed")

    append = clear = extend = insert = pop = remove = reverse = sort = refuse
    __setitem__ = __delitem__ = __iadd__ = __imul__ = refuse
