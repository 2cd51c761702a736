"""The operations on a session.

Each checks its arguments whole before it changes anything, so that a refusal leaves the session as it was.
"""

from textpassages.coverings import fewest_sentences, narrowest_passage
from textpassages.displays import shown_selection
from textpassages.passages import eligible_passages, has_query_word, passage_words, score
from textpassages.queries import read_query, wanted_words
from textpassages.refusals import InvalidArgument, NoWantedWord, TextTooLong
from textpassages.selections import best_passages
from textpassages.texts import Text, is_too_long, read_text

HIGHEST_FACTOR = 100
HIGHEST_FRAME = 20
MOST_PASSAGES = 6


def text_size(session):
    return [len(session.text.words), len(session.text.sentences)]


def text(session, numbers):
    session.text = read_text(numbers)
    return text_size(session)


def more(session, numbers):
    appended = read_text(numbers)
    whole = Text(session.text.sentences + appended.sentences)
    if is_too_long(whole):
        raise TextTooLong()
    session.text = whole
    return text_size(session)


def ask(session, numbers):
    session.weights = read_query(numbers)
    return [len(wanted_words(session.weights, session.text))]


def tune(session, o, e, h, t, c):
    if max(o, e, h, t, c) > HIGHEST_FACTOR:
        raise InvalidArgument()
    settings = session.settings
    settings.o = o
    settings.e = e
    settings.h = h
    settings.t = t
    settings.c = c
    return [0]


def frame(session, w, g):
    if min(w, g) < 1 or max(w, g) > HIGHEST_FRAME:
        raise InvalidArgument()
    session.settings.w = w
    session.settings.g = g
    return [0]


def worth(session, a, b):
    if a == 0 or a > b or b > len(session.text.words):
        raise InvalidArgument()
    # An answer holds numbers only, so the truth value is written as 1 or 0.
    return [1 if has_query_word(session, a, b) else 0, score(session, a, b)]


def flat(passages):
    numbers = []
    for a, b in passages:
        numbers.extend([a, b])
    return numbers


def selected_passages(session, k):
    if k < 1 or k > MOST_PASSAGES:
        raise InvalidArgument()
    return best_passages(session, k)


def best(session, k):
    passages = selected_passages(session, k)
    total = sum([score(session, a, b) for a, b in passages])
    return [len(passages)] + flat(passages) + [total]


def singles(session, n):
    scored = [(-score(session, a, b), a, b) for a, b in eligible_passages(session)]
    first = [(a, b) for turned, a, b in sorted(scored)[:n]]
    return [len(first)] + flat(first)


def narrow(session):
    if len(wanted_words(session.weights, session.text)) == 0:
        raise NoWantedWord()
    return list(narrowest_passage(session))


def fewest(session):
    numbers = fewest_sentences(session)
    return [len(numbers)] + list(numbers)


def show(session, k):
    shown = shown_selection(session, selected_passages(session, k))
    return [len(shown)] + shown


def hidden(session, k):
    seen = []
    for a, b in selected_passages(session, k):
        seen.extend(passage_words(session, a, b))
    unseen = [word for word in wanted_words(session.weights, session.text) if word not in seen]
    return [len(unseen)] + unseen
