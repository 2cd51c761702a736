"""The operations on a session.

Each checks its arguments whole before it changes anything, so that a refusal leaves the session as it was.
"""

from textpassages.passages import has_query_word, score
from textpassages.queries import read_query, wanted_words
from textpassages.refusals import InvalidArgument, TextTooLong
from textpassages.texts import Text, is_too_long, read_text

HIGHEST_FACTOR = 100
HIGHEST_FRAME = 20


def text_size(session):
    return [len(session.text.words), len(session.text.sentences)]


def text(session, numbers):
    session.text = read_text(numbers)
    return text_size(session)


def more(session, numbers):
    appended = read_text(numbers)
    whole = Text(session.text.sentences + appended.sentences)
    if is_too_long(whole):
        raise TextTooLong()
    session.text = whole
    return text_size(session)


def ask(session, numbers):
    session.weights = read_query(numbers)
    return [len(wanted_words(session.weights, session.text))]


def tune(session, o, e, h, t, c):
    if max(o, e, h, t, c) > HIGHEST_FACTOR:
        raise InvalidArgument()
    settings = session.settings
    settings.o = o
    settings.e = e
    settings.h = h
    settings.t = t
    settings.c = c
    return [0]


def frame(session, w, g):
    if min(w, g) < 1 or max(w, g) > HIGHEST_FRAME:
        raise InvalidArgument()
    session.settings.w = w
    session.settings.g = g
    return [0]


def worth(session, a, b):
    if a == 0 or a > b or b > len(session.text.words):
        raise InvalidArgument()
    # An answer holds numbers only, so the truth value is written as 1 or 0.
    return [1 if has_query_word(session, a, b) else 0, score(session, a, b)]
