import contextlib
import io
import unittest

from tests.calling import all_worths, ask, flat, frame, more, run, sentences_of, text, tune, worth
from textpassages.desk import answers

# One call of each kind, and a refusal of each kind.
MIXED = [text(1, 2, 0, 3, 0), ask(1, 2, 3, 4), worth(1, 3), more(*sentences_of([58])), tune(1, 2, 3, 4, 5),
         frame(20, 20), worth(0, 1), more(1, 0), worth(1, 4)]
MIXED_ANSWERS = [2, 3, 2, 1, 2, 2, 1, 10 * 6 + 6 + 5 - 3, 1, -5, 1, 0, 1, 0, 1, -1, 2, 4, 3, 2, 1,
                 6 + 2 * 8 + 3 + 4 - 20]


class Unchangeable(list):
    def refuse(self, *given, **named):
        raise AssertionError("what was handed in is changed")

    append = extend = insert = pop = remove = clear = sort = reverse = refuse
    __setitem__ = __delitem__ = __iadd__ = __imul__ = refuse


class DeskTest(unittest.TestCase):
    def test_form_of_the_answers(self):
        self.assertEqual(answers([0, 0]), [2, 0, 0])
        self.assertEqual(answers([2, 1, 1]), [1, -1])
        self.assertEqual(answers([5, 0, 0]), [1, -1])
        self.assertEqual(answers(flat(MIXED)), MIXED_ANSWERS)

    def test_rows_of_any_length_are_taken_whole(self):
        calls = [text(*[5] * 100), more(*[0] * 100), ask(*[5] * 20), text(), more(), ask(), worth(0, 5), text(5, 0)]
        self.assertEqual(answers(flat(calls)), [1, -1, 1, -1, 1, -1, 2, 0, 0, 2, 0, 0, 1, 0, 1, -1, 2, 1, 1])

    def test_numbers_within_a_call_are_no_calls(self):
        calls = [tune(5, 4, 3, 2, 1), frame(2, 5), ask(2, 2), text(5, 4, 3, 2, 1, 0), worth(4, 5)]
        self.assertEqual(answers(flat(calls)), [1, 0, 1, 0, 1, 0, 2, 5, 1, 2, 1, 5 * 2 + 4 * 2 + 2 - 2])

    def test_plain_list_of_plain_whole_numbers(self):
        given = answers(flat(MIXED))
        self.assertIs(type(given), list)
        self.assertEqual([number for number in given if type(number) is not int], [])

    def test_each_request_as_if_it_were_the_first(self):
        probe = [more(), text(1, 0, 3, 0), *all_worths(2), ask(1, 1), *all_worths(2)]
        wished = run(*probe)
        self.assertEqual(wished[0], [0, 0])
        self.assertEqual(wished[2:5], [[0, 3 + 2 - 1], [0, 3 + 2 - 2], [0, 3 + 2 - 1]])
        for number in range(3):
            self.assertEqual(answers(flat(MIXED)), MIXED_ANSWERS)
            self.assertEqual(run(*probe), wished)

    def test_what_is_handed_in_stays(self):
        handed = flat(MIXED)
        before = list(handed)
        answers(handed)
        self.assertEqual(handed, before)

    def test_what_is_handed_in_is_not_changed_for_a_while_either(self):
        self.assertEqual(answers(Unchangeable(flat(MIXED))), MIXED_ANSWERS)

    def test_the_answers_are_a_list_of_their_own(self):
        first = answers(flat(MIXED))
        first.clear()
        self.assertEqual(answers(flat(MIXED)), MIXED_ANSWERS)

    def test_forty_calls(self):
        calls = [text()] + [more(1, 0)] * 20 + [more(1, 0)] + [ask(1, 1)] + [worth(1, 20)] * 17
        self.assertEqual(len(calls), 40)
        found = run(*calls)
        self.assertEqual(found[:21], [[number, number] for number in range(21)])
        self.assertEqual(found[21:], [[-5], [1]] + [[1, 10 + 20 + 5 - 20]] * 17)

    def test_forty_calls_of_the_longest_rows(self):
        calls = [text(*sentences_of([3] * 20)), more(*[1] * 100)] * 20
        self.assertEqual(run(*calls), [[60, 20], [-1]] * 20)

    def test_prints_nothing(self):
        printed = io.StringIO()
        with contextlib.redirect_stdout(printed), contextlib.redirect_stderr(printed):
            answers(flat(MIXED))
        self.assertEqual(printed.getvalue(), "")


if __name__ == "__main__":
    unittest.main()
