"""The document's requirements, each over many small texts; the best selections by a search through all there are."""

import random
import unittest

from tests.calling import (HUGE, INVALID, NONE_WANTED, TOO_LONG, Plain, all_worths, ask, best, fewest, frame, hidden,
                           last, more, narrow, passages_of, run, sentences_of, show, singles, text, tune, worth)
from textpassages.desk import answer
from textpassages.session import Session


def one_case(source, most_words):
    words = [source.randint(1, 5) for position in range(source.randint(0, most_words))]
    sentences = []
    while words:
        length = source.randint(1, len(words))
        sentences.append(words[:length])
        words = words[length:]
    query = source.sample(range(1, 7), source.randint(0, 4))
    pairs = [number for word in query for number in (word, source.randint(1, 3))]
    # Small numbers, so that there are many equal scores, and many around 0.
    factors = [source.randint(0, highest) for highest in (3, 2, 3, 3, 4)]
    return Plain(sentences, pairs, factors, source.randint(1, 6), source.randint(1, 3))


def cases(count, most_words):
    # The same ones in each run.
    source = random.Random(20)
    return [one_case(source, most_words) for number in range(count)]


class PointOneTest(unittest.TestCase):
    def test_none_is_better(self):
        for case in cases(400, 8):
            found = case.asked(*[best(k) for k in range(1, 7)])
            for k, answer in zip(range(1, 7), found):
                selection = passages_of(answer[1:-1])
                self.assertEqual(answer[0], len(selection), case)
                self.assertEqual(answer[-1], case.total(selection), case)
                self.assertEqual([other for other in case.selections(k) if case.is_better(other, selection)], [], case)

    def test_it_is_a_selection(self):
        for case in cases(1000, 12):
            for k, answer in zip(range(1, 7), case.asked(*[best(k) for k in range(1, 7)])):
                selection = passages_of(answer[1:-1])
                self.assertLessEqual(len(selection), k, case)
                for a, b in selection:
                    self.assertTrue(1 <= a <= b <= len(case.words) and case.is_eligible(a, b), case)
                for (a, b), (next_a, next_b) in zip(selection, selection[1:]):
                    self.assertGreaterEqual(next_a - b - 1, case.g, case)


class PointTwoTest(unittest.TestCase):
    def test_more_passages_have_no_smaller_score(self):
        for case in cases(1000, 20):
            found = [answer[-1] for answer in case.asked(*[best(k) for k in range(1, 7)])]
            self.assertEqual(found, sorted(found), case)
            self.assertGreaterEqual(found[0], 0, case)

    def test_each_passage_has_a_score_above_0(self):
        for case in cases(1000, 20):
            for answer in case.asked(*[best(k) for k in range(1, 7)]):
                for a, b in passages_of(answer[1:-1]):
                    self.assertGreater(case.score(a, b), 0, case)

    def test_one_passage_is_the_first_of_singles(self):
        positive = 0
        for case in cases(1000, 20):
            single, selected = case.asked(singles(1), best(1))
            scores = [case.score(a, b) for a, b in passages_of(single[1:])]
            if scores and scores[0] > 0:
                positive += 1
                self.assertEqual(selected, [1, *single[1:], scores[0]], case)
            else:
                self.assertEqual(selected, [0, 0], case)
        # Both must have been seen often.
        self.assertTrue(100 < positive < 900, positive)


class PointThreeTest(unittest.TestCase):
    def test_sentences_without_query_words(self):
        asked = [call for k in range(1, 7) for call in (best(k), show(k), hidden(k))]
        for case in cases(500, 15):
            # The word 40 is in no query here.
            for appended in (sentences_of([1], 40), sentences_of([3, 1, 2], 40), sentences_of([5] * 5, 40)):
                found = case.asked(*asked, more(*appended), *asked)
                self.assertGreater(found[len(asked)][0], len(case.words), case)
                self.assertEqual(found[:len(asked)], found[len(asked) + 1:], case)


FACTORS = ((10, 1, 3, 2, 1), (0, 0, 0, 0, 0), (100, 100, 100, 100, 100), (0, 1, 0, 50, 9), (3, 0, 70, 0, 100))
TEXTS = ([[1, 2, 1, 3]], [[3], [1], [2, 2], [3, 1]], [[4, 4, 4], [4, 1, 4]], [[1, 2], [3, 4], [5, 6], [7, 7]])
QUERIES = ((), (1, 1), (1, 100, 2, 50), (7, 9, 4, 100, 3, 1))


class PointFourTest(unittest.TestCase):
    def each_case(self):
        return [Plain(sentences, query, factors) for sentences in TEXTS for query in QUERIES for factors in FACTORS]

    def scores(self, case):
        asked = all_worths(len(case.words))
        return {tuple(call[1:]): score for call, (_, score) in zip(asked, case.asked(*asked))}

    def test_at_most_the_longer_ones_plus_c_and_t(self):
        for case in self.each_case():
            scores = self.scores(case)
            for a, b in scores:
                if (a, b + 1) in scores:
                    self.assertLessEqual(scores[a, b], scores[a, b + 1] + case.factors[4] + case.factors[3], case)

    def test_one_more_word_outside_the_query(self):
        for case in self.each_case():
            scores = self.scores(case)
            for a, b in scores:
                if b not in case.ends and case.words[b] not in case.weights:
                    gain = case.factors[3] if b + 1 in case.ends else 0
                    self.assertEqual(scores[a, b + 1], scores[a, b] - case.factors[4] + gain, case)


class PointFiveTest(unittest.TestCase):
    def test_eligible_passages_in_their_order(self):
        for case in cases(500, 12):
            ranked = sorted([-case.score(a, b), a, b] for a, b in case.eligible())
            wished = [(a, b) for turned, a, b in ranked]
            for n in (0, 1, 2, len(wished), len(wished) + 1, HUGE):
                answer = case.asked(singles(n))[0]
                self.assertEqual(answer[0], min(n, len(wished)), case)
                self.assertEqual(passages_of(answer[1:]), wished[:n], case)

    def test_what_is_left_out_scores_no_more(self):
        for case in cases(500, 12):
            eligible = case.eligible()
            for n in range(1, len(eligible)):
                found = passages_of(case.asked(singles(n))[0][1:])
                self.assertEqual(len(found), n, case)
                left_out = [case.score(a, b) for a, b in eligible if (a, b) not in found]
                self.assertLessEqual(max(left_out), min(case.score(a, b) for a, b in found), case)


class PointSixTest(unittest.TestCase):
    def test_no_passage_is_narrower(self):
        failed = 0
        for case in cases(1000, 15):
            wished = [(b - a, a, b) for a, b in case.passages() if case.holds_wanted(case.inside(a, b))]
            if case.wanted:
                self.assertEqual(case.asked(narrow())[0], list(min(wished)[1:]), case)
            else:
                failed += 1
                self.assertEqual(case.asked(narrow())[0], NONE_WANTED, case)
        self.assertTrue(100 < failed < 900, failed)


class PointSevenTest(unittest.TestCase):
    def test_no_set_is_smaller(self):
        for case in cases(1000, 15):
            wished = next(case.coverings())
            self.assertEqual(case.asked(fewest())[0], [len(wished), *wished], case)


class PointEightTest(unittest.TestCase):
    def test_the_words_result(self):
        for case in cases(1000, 15):
            for k in range(1, 7):
                selected, shown = case.asked(best(k), show(k))
                self.assertEqual(shown[0], len(shown) - 1, case)
                wished = [case.inside(a, b) for a, b in passages_of(selected[1:-1])]
                self.assertEqual(self.words_of(shown[1:]), wished, case)

    def words_of(self, form):
        parts = [[]] if form else []
        for number in form:
            if number == 1:
                parts.append([])
            elif number > 1:
                parts[-1].append(number // 2)
        return parts

    def test_odd_for_query_words(self):
        for case in cases(1000, 15):
            for number in case.asked(show(6))[0][1:]:
                if number >= 2:
                    self.assertEqual(number % 2 == 1, number // 2 in case.weights, case)

    def test_0_where_a_sentence_is_cut(self):
        for case in cases(1000, 15):
            for k in range(1, 7):
                selected, shown = case.asked(best(k), show(k))
                wished = []
                for a, b in passages_of(selected[1:-1]):
                    words = [2 * word + (word in case.weights) for word in case.inside(a, b)]
                    wished += [1] + [0] * (a not in case.begins) + words + [0] * (b not in case.ends)
                self.assertEqual(shown[1:], wished[1:], case)


class HiddenWordsTest(unittest.TestCase):
    def test_words_in_no_passage(self):
        for case in cases(1000, 15):
            for k in range(1, 7):
                selected, unseen = case.asked(best(k), hidden(k))
                seen = [word for a, b in passages_of(selected[1:-1]) for word in case.inside(a, b)]
                wished = [word for word in case.wanted if word not in seen]
                self.assertEqual(unseen, [len(wished), *wished], case)


BEFORE = [text(1, 2, 0, 3, 0), ask(3, 7, 1, 4), tune(5, 4, 30, 20, 1), frame(2, 3)]
ASKING = [best(1), best(6), singles(HUGE), narrow(), fewest(), show(2), hidden(1)]
AFTER = [*ASKING, more(), *all_worths(3), more(1, 0), *all_worths(4), *ASKING]
FAILING = [
    (text(0), INVALID),
    (text(4, 5), INVALID),
    (text(4, 0, 0), INVALID),
    (text(4, 0, 5), INVALID),
    (text(4, 0, 41, 0), INVALID),
    (text(*sentences_of([1] * 21)), INVALID),
    (text(*sentences_of([61])), INVALID),
    (more(0), INVALID),
    (more(4, 5), INVALID),
    (more(4, 0, 0), INVALID),
    (more(4, 0, 5), INVALID),
    (more(4, 0, 41, 0), INVALID),
    (more(*sentences_of([1] * 21)), INVALID),
    (more(*sentences_of([61])), INVALID),
    (more(*sentences_of([1] * 19)), TOO_LONG),
    (more(*sentences_of([1, 57])), TOO_LONG),
    (ask(2), INVALID),
    (ask(2, 9, 1), INVALID),
    (ask(2, 9, 0, 1), INVALID),
    (ask(2, 9, 41, 1), INVALID),
    (ask(2, 9, 2, 1), INVALID),
    (ask(2, 9, 1, 0), INVALID),
    (ask(2, 9, 1, 101), INVALID),
    (ask(2, 9, 1, 1, 3, 1, 4, 1, 5, 1, 6, 1, 7, 1), INVALID),
    (tune(101, 0, 0, 0, 0), INVALID),
    (tune(0, 101, 0, 0, 0), INVALID),
    (tune(0, 0, 101, 0, 0), INVALID),
    (tune(0, 0, 0, 101, 0), INVALID),
    (tune(0, 0, 0, 0, HUGE), INVALID),
    (frame(0, 5), INVALID),
    (frame(5, 0), INVALID),
    (frame(21, 5), INVALID),
    (frame(5, HUGE), INVALID),
    (worth(0, 1), INVALID),
    (worth(2, 1), INVALID),
    (worth(1, 4), INVALID),
    (best(0), INVALID),
    (best(7), INVALID),
    (best(HUGE), INVALID),
    (show(0), INVALID),
    (show(7), INVALID),
    (show(HUGE), INVALID),
    (hidden(0), INVALID),
    (hidden(7), INVALID),
    (hidden(HUGE), INVALID),
]

# Without a wanted word: no query, none of its words in the text, no text.
UNWANTED = (
    [text(1, 2, 0, 3, 0), tune(5, 4, 30, 20, 1), frame(2, 3)],
    [text(1, 2, 0, 3, 0), ask(4, 7, 5, 4), tune(5, 4, 30, 20, 1), frame(2, 3)],
    [ask(4, 7, 1, 4), tune(5, 4, 30, 20, 1), frame(2, 3)],
)


def made(session, call):
    """Makes the call on the session itself; of text, more and ask without the count ahead of the row."""
    return answer(session, call[0], call[2:] if call[0] <= 2 else call[1:])


def session_after(calls):
    session = Session()
    for call in calls:
        made(session, call)
    return session


def kept(session):
    return [repr(session.text.sentences), repr(vars(session.text)), repr(session.weights), repr(vars(session.settings))]


class PointNineTest(unittest.TestCase):
    def test_the_failing_calls_fail(self):
        for call, refusal in FAILING:
            self.assertEqual(last(*BEFORE, call), refusal, call)

    def test_later_answers_are_the_same(self):
        wished = run(*BEFORE, *AFTER)[len(BEFORE):]
        for call, refusal in FAILING:
            self.assertEqual(run(*BEFORE, call, *AFTER)[len(BEFORE) + 1:], wished, call)

    def test_a_new_session_is_still_new(self):
        asked = [text(1, 0, 2, 3, 0), *all_worths(3), ask(1, 1, 2, 1), *all_worths(3), *ASKING]
        wished = run(*asked)
        for call, refusal in FAILING:
            if refusal == INVALID:
                found = run(call, more(), *asked)
                self.assertEqual([found[0], found[1], found[2:]], [INVALID, [0, 0], wished], call)

    def test_the_session_itself_stays(self):
        session = session_after(BEFORE)
        wished = kept(session)
        for call, refusal in FAILING:
            self.assertEqual(made(session, call), refusal, call)
            self.assertEqual(kept(session), wished, call)

    def test_narrow_without_a_wanted_word(self):
        for before in UNWANTED:
            after = [*ASKING, more(1, 0, 4, 0), *all_worths(2), *ASKING]
            found = run(*before, narrow(), *after)[len(before):]
            self.assertEqual(found, [NONE_WANTED, *run(*before, *after)[len(before):]], before)
            session = session_after(before)
            wished = kept(session)
            self.assertEqual(made(session, narrow()), NONE_WANTED, before)
            self.assertEqual(kept(session), wished, before)

    def test_asking_changes_nothing_either(self):
        session = session_after(BEFORE)
        wished = kept(session)
        for call in ASKING:
            self.assertGreaterEqual(made(session, call)[0], 0, call)
            self.assertEqual(kept(session), wished, call)
        found = run(*BEFORE, *ASKING, *ASKING[::-1])[len(BEFORE):]
        self.assertEqual(found, found[::-1])


if __name__ == "__main__":
    unittest.main()
