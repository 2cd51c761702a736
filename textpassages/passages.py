"""Passages [a, b] of a session's text, and their scores."""


def passage_words(session, a, b):
    return session.text.words[a - 1:b]


def has_query_word(session, a, b):
    return any([word in session.weights for word in passage_words(session, a, b)])


def score(session, a, b):
    settings = session.settings
    weights = session.weights
    words = passage_words(session, a, b)
    different = sum([weights[word] for word in weights if word in words])
    occurring = sum([weights.get(word, 0) for word in words])
    total = settings.o * different + settings.e * occurring - settings.c * len(words)
    if a in session.text.begins:
        total += settings.h
    if b in session.text.ends:
        total += settings.t
    return total


def eligible_passages(session):
    last = len(session.text.words)
    found = []
    for a in range(1, last + 1):
        for b in range(a, min(a + session.settings.w - 1, last) + 1):
            if has_query_word(session, a, b):
                found.append((a, b))
    return found
