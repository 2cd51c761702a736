import unittest

from tests.calling import HUGE, INVALID, ask, frame, hidden, last, run, text, tune

# 1, 2 and 3 stand far from one another; 2 has the greatest weight, then 1, then 3; 9 is not in the text.
APART = [text(1, 5, 5, 2, 5, 5, 0, 3, 0), ask(3, 1, 9, 100, 1, 2, 2, 3), tune(10, 0, 0, 0, 1), frame(1, 1)]


class HiddenTest(unittest.TestCase):
    def test_range_of_k(self):
        before = [text(1, 0), ask(1, 1)]
        self.assertEqual(run(*before, *[hidden(k) for k in range(1, 7)])[2:], [[0]] * 6)
        self.assertEqual(run(*before, hidden(0), hidden(7), hidden(HUGE))[2:], [INVALID] * 3)
        self.assertEqual(run(hidden(0), hidden(7)), [INVALID] * 2)

    def test_each_k(self):
        self.assertEqual(run(*APART, hidden(1), hidden(2), hidden(3), hidden(6))[4:], [[2, 3, 1], [1, 3], [0], [0]])

    def test_order_of_the_query(self):
        for query, unseen in (((3, 1, 1, 2, 2, 3), [3, 1]), ((1, 2, 2, 3, 3, 1), [1, 3]), ((2, 3, 1, 2, 3, 1), [1, 3])):
            self.assertEqual(last(*APART, ask(*query), hidden(1)), [2, *unseen])

    def test_empty_selection(self):
        self.assertEqual(last(*APART, tune(0, 0, 0, 0, 0), hidden(6)), [3, 3, 1, 2])
        self.assertEqual(last(*APART, tune(0, 1, 0, 0, 100), hidden(1)), [3, 3, 1, 2])

    def test_no_wanted_word(self):
        self.assertEqual(run(hidden(1), ask(1, 1), hidden(6))[0::2], [[0]] * 2)
        self.assertEqual(run(text(1, 2, 0), hidden(1), ask(3, 1), hidden(6))[1::2], [[0]] * 2)

    def test_a_word_that_also_stands_elsewhere(self):
        self.assertEqual(last(text(1, 5, 1, 2, 0), ask(1, 2, 2, 1), frame(1, 1), hidden(1)), [1, 2])
        self.assertEqual(last(text(1, 2, 5, 5, 5, 1, 0), ask(1, 1, 2, 1), hidden(1)), [0])

    def test_every_passage_and_word_counts(self):
        before = [text(1, 2, 5, 5, 5, 5, 5, 3, 4, 5, 6, 0), ask(6, 1, 4, 9, 3, 9, 2, 9, 1, 9), tune(10, 0, 0, 0, 10)]
        self.assertEqual(last(*before, frame(2, 1), hidden(1)), [3, 6, 4, 3])
        self.assertEqual(last(*before, frame(2, 1), hidden(2)), [1, 6])


if __name__ == "__main__":
    unittest.main()
