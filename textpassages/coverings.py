"""The least that holds all wanted words: a passage, or a set of sentences."""

from textpassages.passages import passage_words
from textpassages.queries import wanted_words


def holds_all(words, wanted):
    return all([word in words for word in wanted])


def narrowest_passage(session):
    wanted = wanted_words(session.weights, session.text)
    last = len(session.text.words)
    found = []
    for a in range(1, last + 1):
        for b in range(a, last + 1):
            if holds_all(passage_words(session, a, b), wanted):
                found.append((a, b))
                # Those that begin here and end later are longer.
                break
    return min(found, key=lambda passage: (passage[1] - passage[0], passage[0]))


def smallest_first(numbers):
    return (len(numbers), numbers)


def still_missing(missing, sentence):
    return tuple([word for word in missing if word not in sentence])


def with_sentence(smallest, number, sentence):
    found = {}
    for missing in smallest:
        found[missing] = smallest[missing]
    for missing in smallest:
        longer = smallest[missing] + (number,)
        left = still_missing(missing, sentence)
        if left not in found or smallest_first(longer) < smallest_first(found[left]):
            found[left] = longer
    return found


def fewest_sentences(session):
    wanted = wanted_words(session.weights, session.text)
    # For the words that are still missing: the smallest set of sentences that leaves just these. The same sentences
    # added to two sets don't change which of them is the smaller or the earlier one, so no other set is needed.
    smallest = {tuple(wanted): ()}
    for number, sentence in enumerate(session.text.sentences, start=1):
        smallest = with_sentence(smallest, number, sentence)
    return smallest[()]
