"""What a call is refused for; keysgoon.ends gives each its number."""


class WrongArguments(Exception):
    pass


class NothingToWriteOn(Exception):
    pass


class NotRight(Exception):
    pass


class TooManyKeys(Exception):
    pass
