"""The errors by which an operation refuses a call."""


class InvalidArgument(Exception):
    pass


class NoWantedWord(Exception):
    pass


class TextTooLong(Exception):
    pass


class UnknownCall(Exception):
    pass
