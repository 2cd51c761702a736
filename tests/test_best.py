import unittest

from tests.calling import HUGE, INVALID, ask, best, frame, last, more, run, sentences_of, text, tune


def ones_at(count, *positions):
    """A text of one sentence with so many words: 1 at these positions, 2 elsewhere."""
    return text(*[1 if position in positions else 2 for position in range(1, count + 1)], 0)


class BestTest(unittest.TestCase):
    def test_range_of_k(self):
        before = [text(1, 0), ask(1, 1)]
        found = [1, 1, 1, 10 + 1 + 3 + 2 - 1]
        self.assertEqual(run(*before, *[best(k) for k in range(1, 7)])[2:], [found] * 6)
        self.assertEqual(run(*before, best(0), best(7), best(HUGE))[2:], [INVALID] * 3)
        self.assertEqual(run(best(0), best(1), best(6), best(7)), [INVALID, [0, 0], [0, 0], INVALID])

    def test_nothing_to_select(self):
        self.assertEqual(run(best(1), ask(1, 1), best(6))[0::2], [[0, 0]] * 2)
        self.assertEqual(run(text(1, 2, 0), best(1), ask(3, 100), best(6), ask(), best(2))[1::2], [[0, 0]] * 3)

    def test_a_passage_needs_a_query_word(self):
        self.assertEqual(last(text(2, 0, 1, 0, 2, 0), ask(1, 1), tune(0, 0, 100, 100, 0), frame(1, 1), best(6)),
                         [1, 2, 2, 200])

    def test_no_score_above_0(self):
        prepared = [text(1, 2, 1, 0), tune(0, 1, 0, 0, 2)]
        self.assertEqual(last(*prepared, ask(1, 1), best(6)), [0, 0])
        self.assertEqual(last(*prepared, ask(1, 2), best(6)), [0, 0])
        self.assertEqual(last(*prepared, ask(1, 3), best(6)), [2, 1, 1, 3, 3, 2])

    def test_answer(self):
        # [1, 1] has 10 + 1 + 3 - 1, as much as [1, 4]; [3, 4] has 10 + 1 + 2 - 2.
        before = [text(1, 2, 1, 2, 0), ask(1, 1)]
        self.assertEqual(run(*before, best(1), best(2), best(3)), [
            [4, 1], [1], [1, 1, 1, 13], [2, 1, 1, 3, 4, 24], [2, 1, 1, 3, 4, 24]])

    def test_as_many_as_k(self):
        before = [ones_at(60, 5, 15, 25, 35, 45, 55), ask(1, 1)]
        for k in range(1, 7):
            passages = [5, 5, 15, 15, 25, 25, 35, 35, 45, 45, 55, 55][:2 * k]
            self.assertEqual(last(*before, best(k)), [k, *passages, 10 * k])

    def test_up_to_k_of_the_best_ones(self):
        before = [text(1, 4, 2, 4, 3, 4, 2, 4, 1, 0), ask(1, 1, 2, 2, 3, 3), tune(10, 0, 0, 0, 1), frame(1, 1)]
        self.assertEqual(last(*before, best(1)), [1, 5, 5, 29])
        self.assertEqual(last(*before, best(2)), [2, 3, 3, 5, 5, 19 + 29])
        self.assertEqual(last(*before, best(3)), [3, 3, 3, 5, 5, 7, 7, 19 + 29 + 19])
        self.assertEqual(last(*before, best(4)), [4, 1, 1, 3, 3, 5, 5, 7, 7, 9 + 19 + 29 + 19])

    def test_same_score_with_fewer_passages(self):
        before = [text(1, 2, 1, 0), ask(1, 1)]
        self.assertEqual(last(*before, tune(0, 5, 0, 0, 0), best(2)), [1, 1, 3, 10])
        self.assertEqual(last(*before, tune(0, 5, 0, 0, 1), best(2)), [2, 1, 1, 3, 3, 8])
        self.assertEqual(last(*before, tune(0, 4, 3, 3, 1), best(2)), [2, 1, 1, 3, 3, 12])
        self.assertEqual(last(*before, tune(5, 4, 0, 0, 9), best(2)), [0, 0])

    def test_earlier_begin(self):
        self.assertEqual(last(ones_at(9, 3, 7), ask(1, 1), tune(10, 0, 0, 0, 1), best(1)), [1, 3, 3, 9])
        # Of all passages with the score 10, those that begin at 1 come first.
        self.assertEqual(last(ones_at(9, 3, 7), ask(1, 1), tune(10, 0, 0, 0, 0), best(1)), [1, 1, 3, 10])
        self.assertEqual(last(ones_at(9, 3, 5, 7), ask(1, 1), tune(10, 0, 0, 0, 1), best(2)), [2, 3, 3, 5, 5, 18])
        self.assertEqual(last(ones_at(9, 3, 5, 7), ask(1, 1), tune(10, 0, 0, 0, 1), frame(10, 3), best(2)),
                         [2, 3, 3, 7, 7, 18])

    def test_earlier_end(self):
        self.assertEqual(last(ones_at(9, 1), ask(1, 1), tune(10, 0, 0, 0, 0), best(1)), [1, 1, 1, 10])
        self.assertEqual(last(ones_at(9, 1, 5, 9), ask(1, 1), tune(10, 0, 0, 0, 0), best(3)),
                         [3, 1, 1, 3, 5, 7, 9, 30])

    def test_smallest_and_greatest_w(self):
        before = [text(*sentences_of([30])), ask(1, 1), tune(0, 10, 0, 0, 0)]
        self.assertEqual(last(*before, best(1)), [1, 1, 10, 100])
        self.assertEqual(last(*before, frame(1, 1), best(1)), [1, 1, 1, 10])
        self.assertEqual(last(*before, frame(1, 1), best(3)), [3, 1, 1, 3, 3, 5, 5, 30])
        self.assertEqual(last(*before, frame(20, 1), best(1)), [1, 1, 20, 200])
        self.assertEqual(last(*before, frame(20, 20), best(2)), [1, 1, 20, 200])

    def test_no_longer_than_w(self):
        # [1, 4] would have 2 query words and both ends of the sentence.
        before = [ones_at(4, 1, 4), ask(1, 1), tune(0, 10, 50, 50, 0)]
        self.assertEqual(last(*before, frame(4, 20), best(6)), [1, 1, 4, 120])
        self.assertEqual(last(*before, frame(3, 20), best(6)), [1, 1, 1, 60])
        self.assertEqual(last(*before, frame(3, 2), best(6)), [2, 1, 1, 4, 4, 120])

    def test_positions_between(self):
        for g in (1, 2, 7, 19, 20):
            before = [ask(1, 1), tune(10, 0, 0, 0, 1), frame(1, g)]
            self.assertEqual(last(ones_at(60, 4, 4 + g + 1), *before, best(6)), [2, 4, 4, 5 + g, 5 + g, 18])
            self.assertEqual(last(ones_at(60, 4, 4 + g), *before, best(6)), [1, 4, 4, 9])

    def test_initial_w_and_g(self):
        before = [text(*sentences_of([30])), ask(1, 1)]
        for factors in ((0, 1, 0, 0, 0), (10, 0, 0, 0, 9), (1, 1, 1, 1, 1)):
            for k in range(1, 7):
                found = run(*before, tune(*factors), best(k), frame(10, 1), best(k))
                self.assertEqual(found[3], found[5])
        self.assertEqual(last(*before, tune(0, 1, 0, 0, 0), best(2)), [2, 1, 10, 12, 21, 20])

    def test_frame_between_two_calls(self):
        before = [text(*sentences_of([9])), ask(1, 1), tune(10, 0, 0, 0, 1)]
        found = run(*before, best(6), frame(10, 4), best(6), frame(0, 1), best(6), frame(10, 3), best(6))
        self.assertEqual(found[3::2], [[5, 1, 1, 3, 3, 5, 5, 7, 7, 9, 9, 45], [2, 1, 1, 6, 6, 18],
                                       [2, 1, 1, 6, 6, 18], [3, 1, 1, 5, 5, 9, 9, 27]])

    def test_over_sentence_boundaries(self):
        self.assertEqual(last(text(3, 1, 0, 2, 0, 1, 3, 0), ask(1, 1, 2, 2), tune(0, 10, 0, 0, 1), best(6)),
                         [1, 2, 4, 37])

    def test_text_query_and_factors_of_that_moment(self):
        found = run(text(1, 2, 0), ask(1, 1), best(1), ask(2, 1), best(1), more(2, 0), best(6), tune(0, 1, 0, 0, 0),
                    best(6), text(2, 0), best(6))
        self.assertEqual(found[2::2], [[1, 1, 2, 14], [1, 1, 2, 14], [1, 3, 3, 15], [1, 1, 3, 2], [1, 1, 1, 1]])

    def test_sixty_words_of_a_word(self):
        before = [text(*sentences_of([60])), ask(1, 100), tune(0, 1, 0, 0, 0), frame(20, 1)]
        self.assertEqual(last(*before, best(2)), [2, 1, 20, 22, 41, 4000])
        self.assertEqual(last(*before, best(3)), [3, 1, 18, 20, 39, 41, 60, 5800])


if __name__ == "__main__":
    unittest.main()
