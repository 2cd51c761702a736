import unittest

from tests.calling import HUGE, ask, frame, last, passages_of, run, sentences_of, singles, text, tune

# The eligible passages and their scores: [1, 3] 14, [1, 1] 13, [1, 2] and [3, 3] 12, [2, 3] 11.
BEFORE = [text(1, 2, 1, 0), ask(1, 1)]
SORTED = [1, 3, 1, 1, 1, 2, 3, 3, 2, 3]


class SinglesTest(unittest.TestCase):
    def listed(self, *calls):
        answer = last(*calls, singles(HUGE))
        self.assertEqual(answer[0], len(answer) // 2)
        return passages_of(answer[1:])

    def test_each_n(self):
        self.assertEqual(last(*BEFORE, singles(0)), [0])
        for n in range(6):
            self.assertEqual(last(*BEFORE, singles(n)), [n, *SORTED[:2 * n]])
        self.assertEqual(last(*BEFORE, singles(6)), [5, *SORTED])
        self.assertEqual(last(*BEFORE, singles(HUGE)), [5, *SORTED])

    def test_no_eligible_passage(self):
        for n in (0, 1, HUGE):
            self.assertEqual(last(singles(n)), [0])
            self.assertEqual(last(ask(1, 1), singles(n)), [0])
            self.assertEqual(last(text(1, 0), singles(n)), [0])
            self.assertEqual(last(text(1, 0), ask(2, 100), singles(n)), [0])

    def test_only_passages_with_a_query_word(self):
        found = self.listed(text(2, 0, 1, 0, 2, 0), ask(1, 1), tune(0, 0, 100, 100, 0))
        self.assertEqual(found, [(1, 2), (1, 3), (2, 2), (2, 3)])

    def test_equal_scores(self):
        found = self.listed(text(1, 1, 1, 0), ask(1, 1), tune(0, 0, 0, 0, 0))
        self.assertEqual(found, [(1, 1), (1, 2), (1, 3), (2, 2), (2, 3), (3, 3)])

    def test_equal_scores_behind_a_greater_one(self):
        found = self.listed(text(2, 1, 3, 1, 0), ask(1, 1, 3, 9), tune(1, 0, 0, 0, 0), frame(2, 1))
        self.assertEqual(found, [(2, 3), (3, 4), (3, 3), (1, 2), (2, 2), (4, 4)])

    def test_scores_of_0_and_below(self):
        # 0, 0, -1, -2, -3 by e * 1 - c per word.
        found = self.listed(*BEFORE, tune(0, 1, 0, 0, 1))
        self.assertEqual(found, [(1, 1), (3, 3), (1, 2), (1, 3), (2, 3)])
        found = self.listed(*BEFORE, tune(0, 0, 0, 0, 1))
        self.assertEqual(found, [(1, 1), (3, 3), (1, 2), (2, 3), (1, 3)])
        self.assertEqual(last(*BEFORE, tune(0, 0, 0, 0, 100), singles(1)), [1, 1, 1])

    def test_no_longer_than_w(self):
        plain = [*BEFORE, tune(0, 0, 0, 0, 0)]
        self.assertEqual(self.listed(*plain, frame(1, 1)), [(1, 1), (3, 3)])
        self.assertEqual(self.listed(*plain, frame(2, 1)), [(1, 1), (1, 2), (2, 3), (3, 3)])
        self.assertEqual(self.listed(*plain, frame(3, 1)), [(1, 1), (1, 2), (1, 3), (2, 3), (3, 3)])
        self.assertEqual(self.listed(*plain, frame(20, 1)), [(1, 1), (1, 2), (1, 3), (2, 3), (3, 3)])

    def test_initial_w(self):
        found = self.listed(text(*sentences_of([12])), ask(1, 1))
        self.assertEqual(sorted(found), [(a, b) for a in range(1, 13) for b in range(a, min(a + 9, 12) + 1)])
        # e and c are equal: all that begin at 1 have the score 13, those that end at 12 have 12.
        self.assertEqual(found[:12], [*[(1, b) for b in range(1, 11)], (3, 12), (4, 12)])

    def test_g_does_not_matter(self):
        found = run(*BEFORE, frame(3, 1), singles(HUGE), frame(3, 20), singles(HUGE))
        self.assertEqual(found[3::2], [[5, *SORTED]] * 2)

    def test_over_sentence_boundaries(self):
        found = self.listed(text(1, 0, 2, 0), ask(1, 1, 2, 1))
        self.assertEqual(found, [(1, 2), (1, 1), (2, 2)])

    def test_all_of_sixty_words(self):
        found = self.listed(text(*sentences_of([60])), ask(1, 1), frame(20, 20))
        self.assertEqual(len(found), 41 * 20 + 19 * 20 // 2)
        self.assertEqual(len(set(found)), len(found))


if __name__ == "__main__":
    unittest.main()
