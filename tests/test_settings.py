import unittest

from tests.calling import HUGE, INVALID, ask, frame, last, run, text, tune, worth
from textpassages.operations import frame as frame_of
from textpassages.refusals import InvalidArgument
from textpassages.session import Session

# Of this text and query, [1, 3] has the score o + 2e + h + t - 3c.
PREPARED = [text(1, 1, 2, 0), ask(1, 1)]
WHOLE = worth(1, 3)


def framed(session):
    return [session.settings.w, session.settings.g]


class TuneTest(unittest.TestCase):
    def tuned(self, *factors):
        return run(*PREPARED, tune(*factors), WHOLE)[2:]

    def test_initial_values(self):
        self.assertEqual(last(*PREPARED, WHOLE), [1, 10 + 2 * 1 + 3 + 2 - 3 * 1])
        found = run(*PREPARED, worth(1, 1), worth(2, 2), worth(3, 3), worth(1, 2))
        self.assertEqual(found[2:], [[1, 10 + 1 + 3 - 1], [1, 10 + 1 - 1], [0, 2 - 1], [1, 10 + 2 + 3 - 2]])

    def test_each_of_the_five(self):
        self.assertEqual(self.tuned(0, 0, 0, 0, 0), [[0], [1, 0]])
        self.assertEqual(self.tuned(7, 0, 0, 0, 0), [[0], [1, 7]])
        self.assertEqual(self.tuned(0, 7, 0, 0, 0), [[0], [1, 14]])
        self.assertEqual(self.tuned(0, 0, 7, 0, 0), [[0], [1, 7]])
        self.assertEqual(self.tuned(0, 0, 0, 7, 0), [[0], [1, 7]])
        self.assertEqual(self.tuned(0, 0, 0, 0, 7), [[0], [1, -21]])

    def test_h_and_t_are_not_exchanged(self):
        found = run(*PREPARED, tune(0, 0, 5, 9, 0), worth(1, 2), worth(2, 3))
        self.assertEqual(found[3:], [[1, 5], [1, 9]])

    def test_the_ends_of_the_range(self):
        self.assertEqual(self.tuned(100, 100, 100, 100, 100), [[0], [1, 100 + 200 + 100 + 100 - 300]])
        for place in range(5):
            for number, answer in ((0, [0]), (100, [0]), (101, INVALID), (HUGE, INVALID)):
                factors = [1] * 5
                factors[place] = number
                self.assertEqual(self.tuned(*factors)[0], answer, factors)

    def test_stays_until_tuned_again(self):
        found = run(tune(1, 2, 3, 4, 5), *PREPARED, WHOLE, text(1, 0), worth(1, 1), tune(0, 0, 0, 0, 1), worth(1, 1))
        self.assertEqual([found[3], found[5], found[7]], [[1, 1 + 4 + 3 + 4 - 15], [1, 1 + 2 + 3 + 4 - 5], [1, -1]])


class FrameTest(unittest.TestCase):
    def test_the_ends_of_the_ranges(self):
        for number, answer in ((0, INVALID), (1, [0]), (20, [0]), (21, INVALID), (HUGE, INVALID)):
            self.assertEqual(last(frame(number, 5)), answer, number)
            self.assertEqual(last(frame(5, number)), answer, number)
        self.assertEqual(run(frame(1, 1), frame(20, 20), frame(1, 20), frame(20, 1)), [[0]] * 4)
        self.assertEqual(run(frame(0, 0), frame(0, 21), frame(21, 0), frame(HUGE, HUGE)), [INVALID] * 4)

    def test_changes_no_score(self):
        self.assertEqual(last(*PREPARED, frame(1, 20), WHOLE), last(*PREPARED, WHOLE))

    # The scores don't tell w and g, so these look at the session itself.

    def test_initial_values(self):
        self.assertEqual(framed(Session()), [10, 1])

    def test_sets_both(self):
        session = Session()
        self.assertEqual(frame_of(session, 3, 17), [0])
        self.assertEqual(framed(session), [3, 17])

    def test_a_refusal_sets_neither(self):
        session = Session()
        frame_of(session, 3, 17)
        for w, g in ((0, 5), (5, 0), (21, 5), (5, 21), (HUGE, 5), (5, HUGE)):
            with self.assertRaises(InvalidArgument):
                frame_of(session, w, g)
            self.assertEqual(framed(session), [3, 17])


if __name__ == "__main__":
    unittest.main()
