"""What the tests share: calls written as the desk reads them, answers taken apart, and the plain search."""

from itertools import combinations

from textpassages.desk import answers

INVALID = [-1]
NONE_WANTED = [-3]
TOO_LONG = [-5]
HUGE = 4294967295


def text(*sentences):
    return [0, len(sentences)] + list(sentences)


def more(*sentences):
    return [1, len(sentences)] + list(sentences)


def ask(*pairs):
    return [2, len(pairs)] + list(pairs)


def tune(o, e, h, t, c):
    return [3, o, e, h, t, c]


def frame(w, g):
    return [4, w, g]


def worth(a, b):
    return [5, a, b]


def best(k):
    return [6, k]


def singles(n):
    return [7, n]


def narrow():
    return [8]


def fewest():
    return [9]


def show(k):
    return [10, k]


def hidden(k):
    return [11, k]


def flat(calls):
    return [number for call in calls for number in call]


def apart(given):
    found = []
    place = 0
    while place < len(given):
        start = place + 1
        place = start + given[place]
        # A count below 1 would have this walk go on for ever.
        if place <= start or place > len(given):
            raise AssertionError(f"no whole answer stands at {start - 1} of {given}")
        found.append(given[start:place])
    return found


def run(*calls):
    found = apart(answers(flat(calls)))
    if len(found) != len(calls):
        raise AssertionError(f"{len(calls)} calls, but {len(found)} answers")
    return found


def last(*calls):
    return run(*calls)[-1]


def passages_of(numbers):
    """The pairs of positions that stand one behind another in an answer."""
    return list(zip(numbers[0::2], numbers[1::2], strict=True))


def sentences_of(lengths, word=1):
    """Sentences of these lengths, all of one word, as text and more take them."""
    return [number for length in lengths for number in [word] * length + [0]]


def all_worths(words):
    """The calls of worth for each passage of a text of so many words."""
    return [worth(a, b) for a in range(1, words + 1) for b in range(a, words + 1)]


class Plain:
    """The definitions, word for word, and a search through all there is; for small texts."""

    def __init__(self, sentences, query=(), factors=(10, 1, 3, 2, 1), w=10, g=1):
        self.sentences = sentences
        self.query = query
        self.factors = factors
        self.w = w
        self.g = g
        self.words = [word for sentence in sentences for word in sentence]
        self.ends = [sum(len(sentence) for sentence in sentences[:place + 1]) for place in range(len(sentences))]
        self.begins = [1] + [end + 1 for end in self.ends[:-1]]
        self.weights = dict(zip(query[0::2], query[1::2], strict=True))
        self.wanted = [word for word in query[0::2] if word in self.words]

    def __repr__(self):
        return repr(vars(self))

    def calls(self):
        numbers = [number for sentence in self.sentences for number in [*sentence, 0]]
        return [text(*numbers), ask(*self.query), tune(*self.factors), frame(self.w, self.g)]

    def asked(self, *calls):
        return run(*self.calls(), *calls)[4:]

    def inside(self, a, b):
        return [self.words[position - 1] for position in range(a, b + 1)]

    def score(self, a, b):
        o, e, h, t, c = self.factors
        inside = self.inside(a, b)
        total = o * sum(self.weights[word] for word in set(inside) if word in self.weights)
        total += e * sum(self.weights[word] for word in inside if word in self.weights)
        total += h * (a in self.begins) + t * (b in self.ends)
        return total - c * (b - a + 1)

    def total(self, selection):
        return sum(self.score(a, b) for a, b in selection)

    def passages(self):
        count = len(self.words)
        return [(a, b) for a in range(1, count + 1) for b in range(a, count + 1)]

    def is_eligible(self, a, b):
        return b - a + 1 <= self.w and any(word in self.weights for word in self.inside(a, b))

    def eligible(self):
        return [(a, b) for a, b in self.passages() if self.is_eligible(a, b)]

    def selections(self, k, ahead=()):
        yield list(ahead)
        if k > 0:
            for a, b in self.eligible():
                if not ahead or a - ahead[-1][1] - 1 >= self.g:
                    yield from self.selections(k - 1, (*ahead, (a, b)))

    def is_better(self, one, other):
        if self.total(one) != self.total(other):
            return self.total(one) > self.total(other)
        if len(one) != len(other):
            return len(one) < len(other)
        for (a, b), (other_a, other_b) in zip(one, other, strict=True):
            if a != other_a:
                return a < other_a
            if b != other_b:
                return b < other_b
        return False

    def holds_wanted(self, words):
        return all(word in words for word in self.wanted)

    def coverings(self):
        """All sets of sentences that hold the wanted words, the smaller ones and then the earlier ones first."""
        numbers = range(1, len(self.sentences) + 1)
        for size in range(len(self.sentences) + 1):
            for chosen in combinations(numbers, size):
                if self.holds_wanted([word for number in chosen for word in self.sentences[number - 1]]):
                    yield list(chosen)
