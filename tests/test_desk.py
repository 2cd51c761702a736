import contextlib
import io
import time
import unittest

from tests.calling import (HUGE, all_worths, ask, best, fewest, flat, frame, hidden, more, narrow, run, sentences_of,
                           show, singles, text, tune, worth)
from textpassages.desk import answers

# Calls of each kind with their answers, and a refusal of each kind.
EXPECTED = [
    (narrow(), [-3]),
    (text(1, 2, 0, 3, 0), [3, 2]),
    (ask(1, 2, 3, 4), [2]),
    (worth(1, 3), [1, 10 * 6 + 6 + 5 - 3]),
    (best(2), [2, 1, 1, 3, 3, 24 + 48]),
    (singles(2), [2, 1, 3, 3, 3]),
    (narrow(), [1, 3]),
    (fewest(), [2, 1, 2]),
    (show(2), [4, 3, 0, 1, 7]),
    (hidden(1), [0]),
    (best(0), [-1]),
    (more(*sentences_of([58])), [-5]),
    (tune(1, 2, 3, 4, 5), [0]),
    (frame(20, 20), [0]),
    (worth(0, 1), [-1]),
    (more(1, 0), [4, 3]),
    (worth(1, 4), [1, 6 + 2 * 8 + 3 + 4 - 20]),
    (best(6), [1, 3, 4, 6 + 2 * 6 + 3 + 4 - 10]),
]
MIXED = [call for call, answer in EXPECTED]
MIXED_ANSWERS = [number for call, answer in EXPECTED for number in [len(answer), *answer]]


class Unchangeable(list):
    def refuse(self, *given, **named):
        raise AssertionError("what was handed in is changed")

    append = extend = insert = pop = remove = clear = sort = reverse = refuse
    __setitem__ = __delitem__ = __iadd__ = __imul__ = refuse


class DeskTest(unittest.TestCase):
    def test_form_of_the_answers(self):
        self.assertEqual(answers([0, 0]), [2, 0, 0])
        self.assertEqual(answers([2, 1, 1]), [1, -1])
        self.assertEqual(answers([5, 0, 0]), [1, -1])
        self.assertEqual(answers([6, 1, 7, 1, 8, 9, 10, 1, 11, 1]), [2, 0, 0, 1, 0, 1, -3, 1, 0, 1, 0, 1, 0])
        self.assertEqual(answers(flat(MIXED)), MIXED_ANSWERS)

    def test_rows_of_any_length_are_taken_whole(self):
        calls = [text(*[5] * 100), more(*[0] * 100), ask(*[5] * 20), text(), more(), ask(), worth(0, 5), text(5, 0)]
        self.assertEqual(answers(flat(calls)), [1, -1, 1, -1, 1, -1, 2, 0, 0, 2, 0, 0, 1, 0, 1, -1, 2, 1, 1])

    def test_numbers_within_a_call_are_no_calls(self):
        calls = [tune(5, 4, 3, 2, 1), frame(2, 5), ask(2, 2), text(5, 4, 3, 2, 1, 0), worth(4, 5)]
        self.assertEqual(answers(flat(calls)), [1, 0, 1, 0, 1, 0, 2, 5, 1, 2, 1, 5 * 2 + 4 * 2 + 2 - 2])

    def test_plain_list_of_plain_whole_numbers(self):
        given = answers(flat(MIXED))
        self.assertIs(type(given), list)
        self.assertEqual([number for number in given if type(number) is not int], [])

    def test_each_request_as_if_it_were_the_first(self):
        probe = [best(1), singles(1), narrow(), fewest(), show(1), hidden(1), more(), text(1, 0, 3, 0), *all_worths(2),
                 ask(1, 1), *all_worths(2), best(2)]
        wished = run(*probe)
        self.assertEqual(wished[:7], [[0, 0], [0], [-3], [0], [0], [0], [0, 0]])
        self.assertEqual(wished[8:11], [[0, 3 + 2 - 1], [0, 3 + 2 - 2], [0, 3 + 2 - 1]])
        for number in range(3):
            self.assertEqual(answers(flat(MIXED)), MIXED_ANSWERS)
            self.assertEqual(run(*probe), wished)

    def test_what_is_handed_in_stays(self):
        handed = flat(MIXED)
        before = list(handed)
        answers(handed)
        self.assertEqual(handed, before)

    def test_what_is_handed_in_is_not_changed_for_a_while_either(self):
        self.assertEqual(answers(Unchangeable(flat(MIXED))), MIXED_ANSWERS)

    def test_the_answers_are_a_list_of_their_own(self):
        first = answers(flat(MIXED))
        first.clear()
        self.assertEqual(answers(flat(MIXED)), MIXED_ANSWERS)

    def test_forty_calls(self):
        calls = [text()] + [more(1, 0)] * 20 + [more(1, 0)] + [ask(1, 1)] + [worth(1, 20)] * 17
        self.assertEqual(len(calls), 40)
        found = run(*calls)
        self.assertEqual(found[:21], [[number, number] for number in range(21)])
        self.assertEqual(found[21:], [[-5], [1]] + [[1, 10 + 20 + 5 - 20]] * 17)

    def test_forty_calls_of_the_longest_rows(self):
        calls = [text(*sentences_of([3] * 20)), more(*[1] * 100)] * 20
        self.assertEqual(run(*calls), [[60, 20], [-1]] * 20)

    def test_forty_calls_that_search_the_most(self):
        before = [text(*[1, 2, 3, 4, 5, 6] * 10, 0), ask(1, 9, 2, 8, 3, 7, 4, 6, 5, 5, 6, 4), frame(20, 1)]
        calls = [*before, *[best(6), singles(HUGE), narrow(), fewest(), show(6), hidden(6)] * 6, best(6)]
        self.assertEqual(len(calls), 40)
        begun = time.process_time()
        found = run(*calls)
        # Some hundred times what it takes; a walk through all selections would not end at all.
        self.assertLess(time.process_time() - begun, 30)
        self.assertEqual(found[3:9], found[33:39])
        self.assertEqual([len(answer) for answer in found[3:9]], [14, 1 + 2 * 1010, 2, 2, 1 + found[7][0], 1])

    def test_prints_nothing(self):
        printed = io.StringIO()
        with contextlib.redirect_stdout(printed), contextlib.redirect_stderr(printed):
            answers(flat(MIXED))
        self.assertEqual(printed.getvalue(), "")


if __name__ == "__main__":
    unittest.main()
