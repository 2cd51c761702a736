import unittest

from tests.calling import HUGE, INVALID, ask, frame, last, run, show, text, tune


class ShowTest(unittest.TestCase):
    def test_range_of_k(self):
        before = [text(1, 0), ask(1, 1)]
        self.assertEqual(run(*before, *[show(k) for k in range(1, 7)])[2:], [[1, 3]] * 6)
        self.assertEqual(run(*before, show(0), show(7), show(HUGE))[2:], [INVALID] * 3)
        self.assertEqual(run(show(0), show(7)), [INVALID] * 2)

    def test_empty_selection(self):
        self.assertEqual(run(show(1), show(6)), [[0]] * 2)
        self.assertEqual(last(text(1, 2, 0), show(6)), [0])
        self.assertEqual(last(text(1, 2, 0), ask(3, 1), show(6)), [0])
        self.assertEqual(last(text(1, 2, 0), ask(1, 1), tune(0, 1, 0, 0, 1), show(6)), [0])

    def test_cut_sentences(self):
        before = [text(1, 2, 3, 0), ask(2, 1)]
        self.assertEqual(last(*before, tune(10, 0, 0, 0, 1), show(1)), [3, 0, 5, 0])
        self.assertEqual(last(*before, tune(10, 0, 2, 0, 1), show(1)), [3, 2, 5, 0])
        self.assertEqual(last(*before, tune(10, 0, 0, 2, 1), show(1)), [3, 0, 5, 6])
        self.assertEqual(last(*before, tune(10, 0, 2, 2, 1), show(1)), [3, 2, 5, 6])

    def test_boundaries_within_the_text(self):
        before = [text(4, 0, 1, 2, 0, 3, 5, 0), frame(1, 1), tune(10, 0, 0, 0, 1)]
        self.assertEqual(last(*before, ask(4, 1), show(1)), [1, 9])
        self.assertEqual(last(*before, ask(1, 1), show(1)), [2, 3, 0])
        self.assertEqual(last(*before, ask(2, 1), show(1)), [2, 0, 5])
        self.assertEqual(last(*before, ask(3, 1), show(1)), [2, 7, 0])
        self.assertEqual(last(*before, ask(5, 1), show(1)), [2, 0, 11])

    def test_several_sentences(self):
        self.assertEqual(last(text(2, 0, 2, 3, 2, 0), ask(2, 1), tune(0, 10, 0, 0, 0), show(1)), [4, 5, 5, 6, 5])
        self.assertEqual(last(text(1, 2, 0, 3, 0, 2, 1, 0), ask(2, 1), tune(0, 10, 0, 0, 1), frame(9, 2),
                              show(6)), [5, 0, 5, 6, 5, 0])

    def test_between_passages(self):
        before = [text(2, 1, 1, 2, 1, 2, 0, 2, 0), ask(2, 1), tune(10, 0, 0, 0, 1)]
        self.assertEqual(last(*before, show(1)), [2, 5, 0])
        self.assertEqual(last(*before, show(2)), [6, 5, 0, 1, 0, 5, 0])
        self.assertEqual(last(*before, show(3)), [9, 5, 0, 1, 0, 5, 0, 1, 0, 5])
        self.assertEqual(last(*before, show(6)), [9, 5, 0, 1, 0, 5, 0, 1, 0, 5])

    def test_between_uncut_passages(self):
        self.assertEqual(last(text(2, 0, 1, 0, 2, 0), ask(2, 1), tune(10, 0, 0, 0, 1), show(2)), [3, 5, 1, 5])

    def test_words(self):
        before = [text(1, 40, 20, 39, 0), tune(0, 0, 100, 100, 0)]
        self.assertEqual(last(*before, ask(1, 1), show(1)), [4, 3, 80, 40, 78])
        self.assertEqual(last(*before, ask(40, 1), show(1)), [4, 2, 81, 40, 78])
        self.assertEqual(last(*before, ask(39, 1, 1, 1, 20, 1), show(1)), [4, 3, 80, 41, 79])

    def test_absent_query_words_are_not_shown(self):
        self.assertEqual(last(text(1, 0), ask(2, 1, 1, 1, 3, 1), show(6)), [1, 3])


if __name__ == "__main__":
    unittest.main()
