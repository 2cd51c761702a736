import unittest

from tests.calling import HUGE, INVALID, ask, last, more, run, text, worth


class AskTest(unittest.TestCase):
    def asked(self, *pairs):
        return last(text(1, 2, 0, 40, 1, 0), ask(*pairs))

    def test_counts_the_wanted_words(self):
        self.assertEqual(self.asked(1, 5), [1])
        self.assertEqual(self.asked(3, 5), [0])
        self.assertEqual(self.asked(3, 5, 2, 1, 40, 9, 1, 1), [3])

    def test_no_pair(self):
        self.assertEqual(self.asked(), [0])
        self.assertEqual(run(text(1, 0), ask(1, 1), ask(), worth(1, 1))[-1], [0, 3 + 2 - 1])

    def test_no_text(self):
        self.assertEqual(last(ask(1, 1, 2, 2)), [0])

    def test_counts_by_the_text_at_that_call(self):
        found = run(ask(1, 1, 2, 1), text(1, 0), ask(1, 1, 2, 1), more(2, 0), ask(1, 1, 2, 1), text(2, 0),
                    ask(1, 1, 2, 1), text(), ask(1, 1, 2, 1))
        self.assertEqual(found[0::2], [[0], [1], [2], [1], [0]])

    def test_the_query_outlives_the_text(self):
        self.assertEqual(last(ask(1, 4), text(1, 0), worth(1, 1)), [1, 40 + 4 + 3 + 2 - 1])

    def test_odd_number_of_arguments(self):
        self.assertEqual(self.asked(1), INVALID)
        self.assertEqual(self.asked(1, 1, 2), INVALID)
        self.assertEqual(self.asked(1, 1, 2, 1, 3, 1, 4, 1, 5, 1, 6), INVALID)

    def test_most_pairs(self):
        self.assertEqual(self.asked(1, 1, 2, 1, 3, 1, 4, 1, 5, 1, 40, 1), [3])
        self.assertEqual(self.asked(1, 1, 2, 1, 3, 1, 4, 1, 5, 1, 40, 1, 6), INVALID)
        self.assertEqual(self.asked(1, 1, 2, 1, 3, 1, 4, 1, 5, 1, 40, 1, 6, 1), INVALID)
        self.assertEqual(self.asked(*[number for word in range(1, 11) for number in (word, 1)]), INVALID)

    def test_range_of_words(self):
        self.assertEqual(self.asked(0, 1), INVALID)
        self.assertEqual(self.asked(1, 1), [1])
        self.assertEqual(self.asked(40, 1), [1])
        self.assertEqual(self.asked(41, 1), INVALID)
        self.assertEqual(self.asked(HUGE, 1), INVALID)
        self.assertEqual(self.asked(1, 1, 0, 1), INVALID)
        self.assertEqual(self.asked(1, 1, 41, 1), INVALID)

    def test_word_that_occurs_twice(self):
        self.assertEqual(self.asked(1, 1, 1, 1), INVALID)
        self.assertEqual(self.asked(1, 1, 2, 1, 1, 7), INVALID)
        self.assertEqual(self.asked(3, 1, 3, 2), INVALID)

    def test_a_word_may_be_another_ones_weight(self):
        self.assertEqual(self.asked(1, 2, 2, 1), [2])
        self.assertEqual(self.asked(1, 5, 2, 5), [2])

    def test_range_of_weights(self):
        self.assertEqual(self.asked(1, 0), INVALID)
        self.assertEqual(self.asked(1, 1), [1])
        self.assertEqual(self.asked(1, 100), [1])
        self.assertEqual(self.asked(1, 101), INVALID)
        self.assertEqual(self.asked(1, HUGE), INVALID)
        self.assertEqual(self.asked(1, 1, 2, 0), INVALID)
        self.assertEqual(self.asked(1, 1, 2, 101), INVALID)

    def test_the_weights_are_taken(self):
        found = run(text(1, 2, 3, 0), ask(1, 1, 2, 100), worth(1, 1), worth(2, 2), worth(3, 3))
        self.assertEqual(found[2:], [[1, 11 + 3 - 1], [1, 1100 - 1], [0, 2 - 1]])

    def test_the_pairs_replace_the_query(self):
        found = run(text(1, 2, 3, 0), ask(1, 1), ask(2, 2), worth(1, 1), worth(2, 2))
        self.assertEqual(found[3:], [[0, 3 - 1], [1, 22 - 1]])


if __name__ == "__main__":
    unittest.main()
