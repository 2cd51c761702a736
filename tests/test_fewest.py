import unittest

from tests.calling import ask, fewest, last, more, run, text

SIX = ask(1, 1, 2, 1, 3, 1, 4, 1, 5, 1, 6, 1)


class FewestTest(unittest.TestCase):
    def test_no_wanted_word(self):
        self.assertEqual(last(fewest()), [0])
        self.assertEqual(last(text(1, 0, 2, 0), fewest()), [0])
        self.assertEqual(last(ask(1, 1), fewest()), [0])
        self.assertEqual(last(text(1, 0, 2, 0), ask(3, 1), fewest()), [0])

    def test_by_the_text_and_query_of_that_moment(self):
        found = run(ask(1, 1, 2, 1), fewest(), text(3, 0, 1, 0), fewest(), more(2, 0), fewest(), more(1, 2, 0),
                    fewest(), ask(3, 1), fewest(), text(), fewest())
        self.assertEqual(found[1::2], [[0], [1, 2], [2, 2, 3], [1, 4], [1, 1], [0]])

    def test_one_sentence_holds_all(self):
        self.assertEqual(last(text(1, 0, 2, 0, 2, 3, 1, 0, 1, 2, 0), ask(1, 1, 2, 1), fewest()), [1, 3])
        self.assertEqual(last(text(2, 0, 1, 0, 1, 0), ask(1, 1), fewest()), [1, 2])
        self.assertEqual(last(text(1, 2, 3, 4, 5, 6, 0), SIX, fewest()), [1, 1])

    def test_only_words_of_the_text_are_wanted(self):
        self.assertEqual(last(text(3, 0, 1, 0, 2, 0), ask(1, 1, 9, 1, 2, 1), fewest()), [2, 2, 3])

    def test_several_smallest_sets(self):
        self.assertEqual(last(text(1, 0, 2, 0, 1, 0, 2, 0), ask(1, 1, 2, 1), fewest()), [2, 1, 2])
        self.assertEqual(last(text(1, 0, 1, 0, 2, 0), ask(1, 1, 2, 1), fewest()), [2, 1, 3])
        # {1, 4} comes ahead of {2, 3} and {2, 4}.
        self.assertEqual(last(text(1, 0, 1, 2, 0, 3, 4, 0, 2, 3, 4, 0), SIX, fewest()), [2, 1, 4])
        # {2, 5} comes ahead of {3, 4}.
        self.assertEqual(last(text(7, 0, 1, 0, 1, 2, 0, 3, 4, 0, 2, 3, 4, 0), SIX, fewest()), [2, 2, 5])

    def test_the_sentence_with_most_words_is_not_among_them(self):
        self.assertEqual(last(text(1, 2, 3, 4, 0, 1, 2, 5, 0, 3, 4, 6, 0), SIX, fewest()), [2, 2, 3])
        self.assertEqual(last(text(1, 2, 5, 0, 1, 2, 3, 4, 0, 3, 4, 6, 0), SIX, fewest()), [2, 1, 3])

    def test_fewer_sentences_ahead_of_earlier_ones(self):
        self.assertEqual(last(text(1, 0, 2, 0, 3, 0, 1, 2, 3, 0), SIX, fewest()), [1, 4])
        self.assertEqual(last(text(1, 0, 2, 0, 3, 0, 4, 0, 3, 4, 0, 1, 2, 0), SIX, fewest()), [2, 5, 6])

    def test_order_of_the_query_does_not_matter(self):
        before = text(3, 0, 2, 0, 1, 0, 2, 3, 0)
        for query in (ask(1, 1, 2, 1, 3, 1), ask(3, 9, 2, 7, 1, 100), ask(2, 1, 3, 1, 1, 1)):
            self.assertEqual(last(before, query, fewest()), [2, 3, 4])

    def test_twenty_sentences(self):
        alone = [number for word in range(1, 7) for number in (word, 0)]
        self.assertEqual(last(text(*[7, 0] * 14, *alone), SIX, fewest()), [6, 15, 16, 17, 18, 19, 20])
        self.assertEqual(last(text(*alone, *alone, *alone, 1, 0, 2, 0), SIX, fewest()), [6, 1, 2, 3, 4, 5, 6])
        pairs = [1, 2, 0, 2, 3, 0, 3, 1, 0, 4, 5, 0, 5, 6, 0, 6, 4, 0]
        self.assertEqual(last(text(*pairs, *pairs, *pairs, 1, 0, 3, 0), SIX, fewest()), [4, 1, 2, 4, 5])
        self.assertEqual(last(text(*alone, *alone, *alone, 6, 4, 2, 0, 1, 3, 5, 0), SIX, fewest()), [2, 19, 20])


if __name__ == "__main__":
    unittest.main()
