"""Queries: a dict from each query word to its weight, in the order of the query."""

from textpassages.refusals import InvalidArgument
from textpassages.texts import HIGHEST_WORD

MOST_PAIRS = 6
HIGHEST_WEIGHT = 100


def read_query(numbers):
    if len(numbers) % 2 == 1 or len(numbers) > 2 * MOST_PAIRS:
        raise InvalidArgument()
    weights = {}
    for place in range(0, len(numbers), 2):
        word = numbers[place]
        weight = numbers[place + 1]
        if word < 1 or word > HIGHEST_WORD or word in weights:
            raise InvalidArgument()
        if weight < 1 or weight > HIGHEST_WEIGHT:
            raise InvalidArgument()
        weights[word] = weight
    return weights


def wanted_words(weights, text):
    return [word for word in weights if word in text.words]
