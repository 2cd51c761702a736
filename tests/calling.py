"""Writes calls as the desk reads them, and takes its answers apart again."""

from textpassages.desk import answers

INVALID = [-1]
TOO_LONG = [-5]
HUGE = 4294967295


def text(*sentences):
    return [0, len(sentences)] + list(sentences)


def more(*sentences):
    return [1, len(sentences)] + list(sentences)


def ask(*pairs):
    return [2, len(pairs)] + list(pairs)


def tune(o, e, h, t, c):
    return [3, o, e, h, t, c]


def frame(w, g):
    return [4, w, g]


def worth(a, b):
    return [5, a, b]


def flat(calls):
    return [number for call in calls for number in call]


def apart(given):
    found = []
    place = 0
    while place < len(given):
        start = place + 1
        place = start + given[place]
        # A count below 1 would have this walk go on for ever.
        if place <= start or place > len(given):
            raise AssertionError(f"no whole answer stands at {start - 1} of {given}")
        found.append(given[start:place])
    return found


def run(*calls):
    found = apart(answers(flat(calls)))
    if len(found) != len(calls):
        raise AssertionError(f"{len(calls)} calls, but {len(found)} answers")
    return found


def last(*calls):
    return run(*calls)[-1]


def sentences_of(lengths, word=1):
    """Sentences of these lengths, all of one word, as text and more take them."""
    return [number for length in lengths for number in [word] * length + [0]]


def all_worths(words):
    """The calls of worth for each passage of a text of so many words."""
    return [worth(a, b) for a in range(1, words + 1) for b in range(a, words + 1)]
