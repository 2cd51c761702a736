import unittest

from tests.calling import HUGE, INVALID, Plain, all_worths, ask, frame, last, run, text, tune, worth

# The positions 1 to 7; sentences begin at 1, 4 and 5 and end at 3, 4 and 7.
SENTENCES = text(1, 2, 1, 0, 3, 0, 2, 4, 5, 0)


class WorthTest(unittest.TestCase):
    def worths(self, *calls):
        return run(SENTENCES, ask(1, 3, 2, 5), *calls)[2:]

    def test_no_such_passage(self):
        refused = [worth(0, 1), worth(0, 0), worth(0, 8), worth(2, 1), worth(7, 6), worth(7, 8), worth(1, 8),
                   worth(8, 8), worth(8, 7), worth(9, 8), worth(1, HUGE), worth(HUGE, HUGE), worth(HUGE, 1)]
        self.assertEqual(self.worths(*refused), [INVALID] * len(refused))
        self.assertEqual(self.worths(worth(7, 7), worth(1, 1), worth(1, 7)), [[0, 1], [1, 35], [1, 91 + 3 + 2 - 2]])

    def test_no_text(self):
        self.assertEqual(run(worth(0, 0), worth(1, 1), worth(0, 1)), [INVALID] * 3)

    def test_no_query(self):
        self.assertEqual(run(SENTENCES, worth(1, 3), worth(2, 2)), [[7, 3], [0, 3 + 2 - 3], [0, -1]])

    def test_one_or_none_query_word(self):
        found = self.worths(worth(4, 4), worth(6, 7), worth(3, 4), worth(4, 5), worth(5, 7), worth(1, 7))
        self.assertEqual([answer[0] for answer in found], [0, 0, 1, 1, 1, 1])

    def test_a_word_several_times(self):
        found = self.worths(tune(1, 0, 0, 0, 0), worth(1, 3), worth(1, 5), tune(0, 1, 0, 0, 0), worth(1, 3), worth(1, 5))
        self.assertEqual(found, [[0], [1, 8], [1, 8], [0], [1, 11], [1, 16]])

    def test_bonus_of_a_sentences_begin(self):
        found = self.worths(tune(0, 0, 9, 0, 0), *[worth(a, 7) for a in range(1, 8)])
        self.assertEqual([answer[1] for answer in found[1:]], [9, 0, 0, 9, 9, 0, 0])

    def test_bonus_of_a_sentences_end(self):
        found = self.worths(tune(0, 0, 0, 9, 0), *[worth(1, b) for b in range(1, 8)])
        self.assertEqual([answer[1] for answer in found[1:]], [0, 0, 9, 9, 0, 0, 9])

    def test_a_sentence_of_one_word_has_both(self):
        self.assertEqual(self.worths(worth(4, 4)), [[0, 3 + 2 - 1]])

    def test_boundaries_inside_add_nothing(self):
        self.assertEqual(self.worths(tune(0, 0, 9, 9, 0), worth(2, 6)), [[0], [1, 0]])

    def test_below_0(self):
        found = self.worths(tune(0, 0, 0, 0, 100), worth(6, 6), worth(1, 7), tune(0, 1, 0, 0, 4), worth(1, 1))
        self.assertEqual(found, [[0], [0, -100], [1, -700], [0], [1, -1]])

    def test_exactly_0(self):
        self.assertEqual(self.worths(tune(0, 1, 0, 0, 3), worth(1, 1), worth(1, 7)), [[0], [1, 0], [1, -5]])

    def test_longer_than_w(self):
        self.assertEqual(self.worths(frame(1, 1), worth(1, 7)), [[0], [1, 94]])
        self.assertEqual(last(text(*[1] * 60, 0), ask(1, 100), worth(1, 60)), [1, 1000 + 6000 + 5 - 60])

    def test_greatest_score(self):
        words = [1, 2, 3, 4, 5, 6] * 10
        query = ask(1, 100, 2, 100, 3, 100, 4, 100, 5, 100, 6, 100)
        found = last(text(*words, 0), query, tune(100, 100, 100, 100, 0), worth(1, 60))
        self.assertEqual(found, [1, 60000 + 600000 + 200])

    def test_answers_are_plain_whole_numbers(self):
        for answer in self.worths(worth(1, 1), worth(4, 4)):
            self.assertEqual([type(number) for number in answer], [int, int])

    def test_every_passage_as_defined(self):
        for query in ((), (1, 3, 2, 5), (5, 100), (4, 1, 9, 7, 2, 2, 3, 50)):
            for factors in ((10, 1, 3, 2, 1), (0, 3, 5, 7, 11), (100, 0, 0, 100, 99), (2, 1, 0, 0, 4)):
                case = Plain([[1, 2, 1], [3], [2, 4, 5, 1]], query, factors)
                wished = [[int(any(word in case.weights for word in case.inside(a, b))), case.score(a, b)]
                          for a, b in case.passages()]
                self.assertEqual(case.asked(*all_worths(8)), wished, case)


if __name__ == "__main__":
    unittest.main()
