"""Texts: sentences of words, and the positions at which sentences begin and end."""

from textpassages.refusals import InvalidArgument

HIGHEST_WORD = 40
MOST_SENTENCES = 20
MOST_WORDS = 60


class Text:
    def __init__(self, sentences):
        self.sentences = sentences
        self.words = []
        self.begins = {}
        self.ends = {}
        for sentence in sentences:
            self.begins[len(self.words) + 1] = True
            self.words.extend(sentence)
            self.ends[len(self.words)] = True


def is_too_long(text):
    return len(text.sentences) > MOST_SENTENCES or len(text.words) > MOST_WORDS


def split_sentences(numbers):
    sentences = []
    sentence = []
    for number in numbers:
        if number > HIGHEST_WORD:
            raise InvalidArgument()
        if number > 0:
            sentence.append(number)
        elif len(sentence) == 0:
            raise InvalidArgument()
        else:
            sentences.append(sentence)
            sentence = []
    if len(sentence) > 0:
        raise InvalidArgument()
    return sentences


def read_text(numbers):
    text = Text(split_sentences(numbers))
    if is_too_long(text):
        raise InvalidArgument()
    return text
