"""The desk: takes all calls of one request and gives back all of their answers."""

from textpassages.operations import ask, frame, more, text, tune, worth
from textpassages.reading import split_calls
from textpassages.refusals import InvalidArgument, TextTooLong, UnknownCall
from textpassages.session import Session


def perform(session, number, numbers):
    if number == 0:
        return text(session, numbers)
    if number == 1:
        return more(session, numbers)
    if number == 2:
        return ask(session, numbers)
    if number == 3:
        return tune(session, numbers[0], numbers[1], numbers[2], numbers[3], numbers[4])
    if number == 4:
        return frame(session, numbers[0], numbers[1])
    if number == 5:
        return worth(session, numbers[0], numbers[1])
    raise UnknownCall(f"call {number}")


def answer(session, number, numbers):
    try:
        return perform(session, number, numbers)
    except InvalidArgument:
        return [-1]
    except TextTooLong:
        return [-5]


def answers(calls):
    session = Session()
    given = []
    for number, numbers in split_calls(calls):
        numbers_answered = answer(session, number, numbers)
        given.append(len(numbers_answered))
        given.extend(numbers_answered)
    return given
