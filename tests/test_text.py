import unittest

from tests.calling import HUGE, INVALID, TOO_LONG, ask, last, more, run, sentences_of, text, tune, worth


class WhatBothRefuse:
    """What text and more refuse alike; call is one of the two."""

    call = None

    def refused(self, *sentences):
        self.assertEqual(last(type(self).call(*sentences)), INVALID, sentences)

    def taken(self, sentences, size):
        self.assertEqual(last(type(self).call(*sentences)), size, sentences)

    def test_no_sentence(self):
        self.taken([], [0, 0])

    def test_ordinary_sentences(self):
        self.taken([7, 0], [1, 1])
        self.taken([1, 2, 3, 0, 4, 5, 0], [5, 2])
        self.taken([9, 9, 9, 0], [3, 1])

    def test_sentence_without_a_word(self):
        self.refused(0)
        self.refused(0, 1, 0)
        self.refused(1, 0, 0)
        self.refused(1, 0, 0, 2, 0)
        self.refused(0, 0)

    def test_list_that_does_not_end_with_0(self):
        self.refused(1)
        self.refused(1, 0, 2)
        self.refused(1, 2, 3)

    def test_highest_word(self):
        self.taken([1, 40, 0], [2, 1])
        self.refused(41, 0)
        self.refused(1, 0, 2, 41, 3, 0)
        self.refused(HUGE, 0)
        self.refused(HUGE)

    def test_most_sentences(self):
        self.taken(sentences_of([1] * 20), [20, 20])
        self.taken(sentences_of([3] * 20), [60, 20])
        self.refused(*sentences_of([1] * 21))

    def test_most_words(self):
        self.taken(sentences_of([60]), [60, 1])
        self.taken(sentences_of([30, 30]), [60, 2])
        self.refused(*sentences_of([61]))
        self.refused(*sentences_of([30, 31]))
        self.refused(*sentences_of([99]))
        self.refused(*([1] * 100))


class TextTest(WhatBothRefuse, unittest.TestCase):
    call = staticmethod(text)

    def test_the_sentences_become_the_text(self):
        found = run(text(1, 2, 0, 3, 0), text(4, 5, 6, 7, 0), ask(4, 1, 1, 1), worth(1, 1), worth(4, 4))
        self.assertEqual(found, [[3, 2], [4, 1], [1], [1, 10 + 1 + 3 - 1], [0, 2 - 1]])

    def test_a_full_text_can_be_replaced(self):
        self.assertEqual(last(text(*sentences_of([60])), text(*sentences_of([60]))), [60, 1])
        self.assertEqual(last(text(*sentences_of([1] * 20)), text(*sentences_of([2] * 20))), [40, 20])

    def test_text_becomes_empty(self):
        self.assertEqual(run(text(1, 0), text(), worth(1, 1)), [[1, 1], [0, 0], INVALID])


class MoreTest(WhatBothRefuse, unittest.TestCase):
    call = staticmethod(more)

    def test_answers_the_numbers_of_the_whole_text(self):
        found = run(text(1, 2, 0), more(3, 0, 4, 5, 0), more(), more(6, 0))
        self.assertEqual(found, [[2, 1], [5, 3], [5, 3], [6, 4]])

    def test_appends_behind_what_is_there(self):
        found = run(text(1, 2, 0), more(3, 4, 0), tune(0, 1, 10, 20, 0), ask(1, 1, 2, 2, 3, 3, 4, 4),
                    worth(1, 1), worth(2, 2), worth(3, 3), worth(4, 4))
        self.assertEqual(found[4:], [[1, 1 + 10], [1, 2 + 20], [1, 3 + 10], [1, 4 + 20]])

    def test_whole_text_of_most_sentences(self):
        self.assertEqual(last(text(*sentences_of([1] * 19)), more(1, 0)), [20, 20])
        self.assertEqual(last(text(*sentences_of([1] * 20)), more(1, 0)), TOO_LONG)
        self.assertEqual(last(text(*sentences_of([1] * 10)), more(*sentences_of([1] * 10))), [20, 20])
        self.assertEqual(last(text(*sentences_of([1] * 10)), more(*sentences_of([1] * 11))), TOO_LONG)
        self.assertEqual(last(text(*sentences_of([1] * 20)), more()), [20, 20])

    def test_whole_text_of_most_words(self):
        self.assertEqual(last(text(*sentences_of([59])), more(1, 0)), [60, 2])
        self.assertEqual(last(text(*sentences_of([60])), more(1, 0)), TOO_LONG)
        self.assertEqual(last(text(*sentences_of([30])), more(*sentences_of([31]))), TOO_LONG)
        self.assertEqual(last(text(*sentences_of([60])), more(*sentences_of([60]))), TOO_LONG)
        self.assertEqual(last(text(*sentences_of([60])), more()), [60, 1])

    def test_invalid_ahead_of_too_long(self):
        for full in (sentences_of([60]), sentences_of([1] * 20)):
            for appended in ([0], [1], [41, 0], [1, 0, 0], sentences_of([61]), sentences_of([1] * 21)):
                self.assertEqual(last(text(*full), more(*appended)), INVALID, appended)


if __name__ == "__main__":
    unittest.main()
