"""The desk: takes all calls of one request and gives back all of their answers."""

from textpassages.operations import ask, best, fewest, frame, hidden, more, narrow, show, singles, text, tune, worth
from textpassages.reading import split_calls
from textpassages.refusals import InvalidArgument, NoWantedWord, TextTooLong, UnknownCall
from textpassages.session import Session


def perform(session, number, numbers):
    if number == 0:
        return text(session, numbers)
    if number == 1:
        return more(session, numbers)
    if number == 2:
        return ask(session, numbers)
    if number == 3:
        return tune(session, numbers[0], numbers[1], numbers[2], numbers[3], numbers[4])
    if number == 4:
        return frame(session, numbers[0], numbers[1])
    if number == 5:
        return worth(session, numbers[0], numbers[1])
    if number == 6:
        return best(session, numbers[0])
    if number == 7:
        return singles(session, numbers[0])
    if number == 8:
        return narrow(session)
    if number == 9:
        return fewest(session)
    if number == 10:
        return show(session, numbers[0])
    if number == 11:
        return hidden(session, numbers[0])
    raise UnknownCall(f"call {number}")


def answer(session, number, numbers):
    try:
        return perform(session, number, numbers)
    except InvalidArgument:
        return [-1]
    except NoWantedWord:
        return [-3]
    except TextTooLong:
        return [-5]


def answers(calls):
    session = Session()
    given = []
    for number, numbers in split_calls(calls):
        numbers_answered = answer(session, number, numbers)
        given.append(len(numbers_answered))
        given.extend(numbers_answered)
    return given
