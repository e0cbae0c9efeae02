"""The calls on two ends, one list of whole numbers in and one out."""

from keysgoon.curve import public_key
from keysgoon.letters import read_letter, write_letter
from keysgoon.refusals import NotRight, NothingToWriteOn, TooManyKeys, WrongArguments
from keysgoon.state import End

MOST_TEXT = 65536
LEAST_LETTER = 56
MOST_LETTER = 65592
MOST_BESIDE = 4096
MOST_WHAT = 4


class Source:
    def __init__(self, numbers):
        self.numbers = numbers
        self.place = 0

    def has_more(self):
        return self.place < len(self.numbers)

    def take_number(self):
        number = self.numbers[self.place]
        self.place += 1
        return number

    def take_row(self):
        start = self.place + 1
        self.place = start + self.numbers[self.place]
        return self.numbers[start:self.place]


def answers(calls):
    source = Source(calls)
    ends = [None, None]
    result = []
    while source.has_more():
        answer = answer_or_refusal(source, ends)
        result.append(len(answer))
        result.extend(answer)
    return result


def answer_or_refusal(source, ends):
    try:
        return answer_to(source, ends)
    except WrongArguments:
        return [-2]
    except NothingToWriteOn:
        return [-3]
    except NotRight:
        return [-4]
    except TooManyKeys:
        return [-5]


# Each call takes all its numbers before it can refuse: the next call begins behind them.
def answer_to(source, ends):
    call = source.take_number()
    if call == 0:
        return call_key(source)
    if call == 1:
        return call_init(source, ends)
    if call == 2:
        return call_write(source, ends)
    if call == 3:
        return call_read(source, ends)
    if call == 4:
        return call_told(source, ends)
    if call == 5:
        return call_forget(source, ends)
    if call == 6:
        return call_own(source, ends)
    raise ValueError("there is no such call")


def call_key(source):
    return [0] + public_key(source.take_row())


def call_init(source, ends):
    which = source.take_number()
    first = source.take_number()
    secret = source.take_row()
    own = source.take_row()
    their = source.take_row()
    need_range(first, 0, 1)
    end = End(secret, own)
    if first == 1:
        end.begin(their)
    ends[which] = end
    return [0]


def call_write(source, ends):
    which = source.take_number()
    text = source.take_row()
    beside = source.take_row()
    need_range(len(text), 0, MOST_TEXT)
    need_range(len(beside), 0, MOST_BESIDE)
    letter = write_letter(ends[which], text, beside)
    return [len(letter)] + letter


def call_read(source, ends):
    which = source.take_number()
    letter = source.take_row()
    beside = source.take_row()
    fresh = source.take_row()
    need_range(len(letter), LEAST_LETTER, MOST_LETTER)
    need_range(len(beside), 0, MOST_BESIDE)
    # The end is changed in a copy, which is dropped where the letter is refused.
    end = ends[which].copied()
    text = read_letter(end, letter, beside, fresh)
    ends[which] = end
    return [len(text)] + text


def call_told(source, ends):
    which = source.take_number()
    what = source.take_number()
    need_range(what, 0, MOST_WHAT)
    return [told(ends[which], what)]


def call_forget(source, ends):
    end = ends[source.take_number()]
    many = len(end.kept)
    end.kept = []
    return [many]


def call_own(source, ends):
    end = ends[source.take_number()]
    return [0] + public_key(end.own)


def told(end, what):
    if what == 0:
        return end.written
    if what == 1:
        return end.read
    if what == 2:
        return end.before
    if what == 3:
        return len(end.kept)
    return 0 if end.write_chain is None else 1


def need_range(number, least, most):
    if number < least or number > most:
        raise WrongArguments()
