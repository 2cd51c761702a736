import unittest

from tests.calling import NONE_WANTED, ask, frame, last, more, narrow, run, text, tune


class NarrowTest(unittest.TestCase):
    def test_no_wanted_word(self):
        self.assertEqual(last(narrow()), NONE_WANTED)
        self.assertEqual(last(text(1, 2, 0), narrow()), NONE_WANTED)
        self.assertEqual(last(ask(1, 1), narrow()), NONE_WANTED)
        self.assertEqual(last(text(1, 2, 0), ask(3, 1, 40, 100), narrow()), NONE_WANTED)
        self.assertEqual(last(text(1, 0), ask(1, 1), ask(), narrow()), NONE_WANTED)
        self.assertEqual(last(text(1, 0), ask(1, 1), text(), narrow()), NONE_WANTED)

    def test_by_the_text_and_query_of_that_moment(self):
        found = run(ask(1, 1, 2, 1), narrow(), text(1, 0), narrow(), more(3, 2, 0), narrow(), ask(3, 1), narrow())
        self.assertEqual(found[1::2], [NONE_WANTED, [1, 1], [1, 3], [2, 2]])

    def test_one_word(self):
        self.assertEqual(last(text(2, 1, 2, 1, 0), ask(1, 1), narrow()), [2, 2])
        self.assertEqual(last(text(1, 0), ask(1, 1), narrow()), [1, 1])

    def test_only_words_of_the_text_are_wanted(self):
        self.assertEqual(last(text(1, 2, 3, 0), ask(1, 1, 9, 1, 3, 1), narrow()), [1, 3])
        self.assertEqual(last(text(2, 2, 3, 0), ask(1, 1, 9, 1, 3, 1), narrow()), [3, 3])

    def test_the_shortest(self):
        query = ask(1, 1, 2, 1)
        self.assertEqual(last(text(1, 3, 2, 1, 0), query, narrow()), [3, 4])
        self.assertEqual(last(text(1, 3, 3, 2, 3, 1, 0), query, narrow()), [4, 6])
        self.assertEqual(last(text(1, 1, 1, 2, 2, 0), query, narrow()), [3, 4])
        self.assertEqual(last(text(2, 3, 3, 3, 1, 1, 0), query, narrow()), [1, 5])

    def test_the_first_of_several_shortest(self):
        self.assertEqual(last(text(3, 1, 2, 1, 2, 0), ask(1, 1, 2, 1), narrow()), [2, 3])
        self.assertEqual(last(text(1, 3, 2, 3, 3, 2, 3, 1, 0), ask(2, 1, 1, 1), narrow()), [1, 3])

    def test_over_sentence_boundaries(self):
        self.assertEqual(last(text(3, 1, 0, 3, 0, 2, 1, 4, 0), ask(1, 1, 2, 1, 3, 1), narrow()), [2, 4])
        self.assertEqual(last(text(1, 0, 2, 0, 3, 0), ask(1, 1, 2, 1, 3, 1), narrow()), [1, 3])

    def test_longer_than_w(self):
        self.assertEqual(last(text(1, 3, 3, 2, 0), ask(1, 1, 2, 1), frame(1, 20), narrow()), [1, 4])
        self.assertEqual(last(text(1, *[3] * 58, 2, 0), ask(1, 1, 2, 1), narrow()), [1, 60])

    def test_scores_do_not_matter(self):
        query = ask(1, 1, 2, 100)
        for factors in ((100, 100, 100, 100, 0), (0, 0, 0, 0, 100)):
            self.assertEqual(last(text(2, 2, 3, 0, 1, 0, 3, 2, 0), query, tune(*factors), narrow()), [2, 4])

    def test_six_wanted_words(self):
        query = ask(6, 1, 5, 1, 4, 1, 3, 1, 2, 1, 1, 1)
        self.assertEqual(last(text(*[1, 2, 3, 4, 5] * 11, 7, 7, 7, 7, 6, 0), query, narrow()), [51, 60])
        self.assertEqual(last(text(*[1, 2, 3, 4, 5, 6] * 10, 0), query, narrow()), [1, 6])


if __name__ == "__main__":
    unittest.main()
