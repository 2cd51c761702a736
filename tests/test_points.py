"""The requirements 4 and 9, as far as the calls there are can break them."""

import unittest

from tests.calling import (HUGE, INVALID, TOO_LONG, all_worths, ask, frame, last, more, run, sentences_of, text, tune,
                           worth)
from textpassages.desk import answer
from textpassages.session import Session

FACTORS = ((10, 1, 3, 2, 1), (0, 0, 0, 0, 0), (100, 100, 100, 100, 100), (0, 1, 0, 50, 9), (3, 0, 70, 0, 100))
TEXTS = ([[1, 2, 1, 3]], [[3], [1], [2, 2], [3, 1]], [[4, 4, 4], [4, 1, 4]], [[1, 2], [3, 4], [5, 6], [7, 7]])
QUERIES = ((), (1, 1), (1, 100, 2, 50), (7, 9, 4, 100, 3, 1))


class PointFourTest(unittest.TestCase):
    def each_case(self):
        for sentences in TEXTS:
            for query in QUERIES:
                for factors in FACTORS:
                    yield sentences, query, factors

    def scores(self, sentences, query, factors):
        numbers = [number for sentence in sentences for number in sentence + [0]]
        before = [text(*numbers), ask(*query), tune(*factors)]
        asked = all_worths(sum(len(sentence) for sentence in sentences))
        found = run(*before, *asked)[3:]
        return {tuple(call[1:]): score for call, (_, score) in zip(asked, found)}

    def test_at_most_the_longer_ones_plus_c_and_t(self):
        for sentences, query, factors in self.each_case():
            scores = self.scores(sentences, query, factors)
            for a, b in scores:
                if (a, b + 1) in scores:
                    self.assertLessEqual(scores[a, b], scores[a, b + 1] + factors[4] + factors[3])

    def test_one_more_word_outside_the_query(self):
        for sentences, query, factors in self.each_case():
            words = [word for sentence in sentences for word in sentence]
            ends = [sum(len(sentence) for sentence in sentences[:count + 1]) for count in range(len(sentences))]
            scores = self.scores(sentences, query, factors)
            for a, b in scores:
                if b not in ends and words[b] not in query[0::2]:
                    gain = factors[3] if b + 1 in ends else 0
                    self.assertEqual(scores[a, b + 1], scores[a, b] - factors[4] + gain)


BEFORE = [text(1, 2, 0, 3, 0), ask(3, 7, 1, 4), tune(5, 4, 30, 20, 1), frame(7, 3)]
AFTER = [more(), *all_worths(3), more(1, 0), *all_worths(4)]
FAILING = [
    (text(0), INVALID),
    (text(4, 5), INVALID),
    (text(4, 0, 0), INVALID),
    (text(4, 0, 5), INVALID),
    (text(4, 0, 41, 0), INVALID),
    (text(*sentences_of([1] * 21)), INVALID),
    (text(*sentences_of([61])), INVALID),
    (more(0), INVALID),
    (more(4, 5), INVALID),
    (more(4, 0, 0), INVALID),
    (more(4, 0, 5), INVALID),
    (more(4, 0, 41, 0), INVALID),
    (more(*sentences_of([1] * 21)), INVALID),
    (more(*sentences_of([61])), INVALID),
    (more(*sentences_of([1] * 19)), TOO_LONG),
    (more(*sentences_of([1, 57])), TOO_LONG),
    (ask(2), INVALID),
    (ask(2, 9, 1), INVALID),
    (ask(2, 9, 0, 1), INVALID),
    (ask(2, 9, 41, 1), INVALID),
    (ask(2, 9, 2, 1), INVALID),
    (ask(2, 9, 1, 0), INVALID),
    (ask(2, 9, 1, 101), INVALID),
    (ask(2, 9, 1, 1, 3, 1, 4, 1, 5, 1, 6, 1, 7, 1), INVALID),
    (tune(101, 0, 0, 0, 0), INVALID),
    (tune(0, 101, 0, 0, 0), INVALID),
    (tune(0, 0, 101, 0, 0), INVALID),
    (tune(0, 0, 0, 101, 0), INVALID),
    (tune(0, 0, 0, 0, HUGE), INVALID),
    (frame(0, 5), INVALID),
    (frame(5, 0), INVALID),
    (frame(21, 5), INVALID),
    (frame(5, HUGE), INVALID),
    (worth(0, 1), INVALID),
    (worth(2, 1), INVALID),
    (worth(1, 4), INVALID),
]


def made(session, call):
    """Makes the call on the session itself; of text, more and ask without the count ahead of the row."""
    return answer(session, call[0], call[2:] if call[0] <= 2 else call[1:])


def kept(session):
    return [repr(session.text.sentences), repr(vars(session.text)), repr(session.weights), repr(vars(session.settings))]


class PointNineTest(unittest.TestCase):
    def test_the_failing_calls_fail(self):
        for call, refusal in FAILING:
            self.assertEqual(last(*BEFORE, call), refusal, call)

    def test_later_answers_are_the_same(self):
        wished = run(*BEFORE, *AFTER)[len(BEFORE):]
        for call, refusal in FAILING:
            self.assertEqual(run(*BEFORE, call, *AFTER)[len(BEFORE) + 1:], wished, call)

    def test_a_new_session_is_still_new(self):
        wished = run(text(1, 0, 2, 3, 0), *all_worths(3), ask(1, 1, 2, 1), *all_worths(3))
        for call, refusal in FAILING:
            if refusal == INVALID:
                found = run(call, more(), text(1, 0, 2, 3, 0), *all_worths(3), ask(1, 1, 2, 1), *all_worths(3))
                self.assertEqual([found[0], found[1], found[2:]], [INVALID, [0, 0], wished], call)

    def test_the_session_itself_stays(self):
        session = Session()
        for call in BEFORE:
            made(session, call)
        wished = kept(session)
        for call, refusal in FAILING:
            self.assertEqual(made(session, call), refusal, call)
            self.assertEqual(kept(session), wished, call)


if __name__ == "__main__":
    unittest.main()
