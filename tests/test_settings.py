import unittest

from tests.calling import HUGE, INVALID, ask, best, frame, last, run, sentences_of, singles, text, tune, worth

# Of this text and query, [1, 3] has the score o + 2e + h + t - 3c.
PREPARED = [text(1, 1, 2, 0), ask(1, 1)]
WHOLE = worth(1, 3)

# Of this text and query, best(2) selects [1, w] and, g positions behind it, [w + g + 1, 2w + g].
FRAMED = [text(*sentences_of([60])), ask(1, 1), tune(0, 1, 0, 0, 0)]


class TuneTest(unittest.TestCase):
    def tuned(self, *factors):
        return run(*PREPARED, tune(*factors), WHOLE)[2:]

    def test_initial_values(self):
        self.assertEqual(last(*PREPARED, WHOLE), [1, 10 + 2 * 1 + 3 + 2 - 3 * 1])
        found = run(*PREPARED, worth(1, 1), worth(2, 2), worth(3, 3), worth(1, 2))
        self.assertEqual(found[2:], [[1, 10 + 1 + 3 - 1], [1, 10 + 1 - 1], [0, 2 - 1], [1, 10 + 2 + 3 - 2]])

    def test_each_of_the_five(self):
        self.assertEqual(self.tuned(0, 0, 0, 0, 0), [[0], [1, 0]])
        self.assertEqual(self.tuned(7, 0, 0, 0, 0), [[0], [1, 7]])
        self.assertEqual(self.tuned(0, 7, 0, 0, 0), [[0], [1, 14]])
        self.assertEqual(self.tuned(0, 0, 7, 0, 0), [[0], [1, 7]])
        self.assertEqual(self.tuned(0, 0, 0, 7, 0), [[0], [1, 7]])
        self.assertEqual(self.tuned(0, 0, 0, 0, 7), [[0], [1, -21]])

    def test_h_and_t_are_not_exchanged(self):
        found = run(*PREPARED, tune(0, 0, 5, 9, 0), worth(1, 2), worth(2, 3))
        self.assertEqual(found[3:], [[1, 5], [1, 9]])

    def test_the_ends_of_the_range(self):
        self.assertEqual(self.tuned(100, 100, 100, 100, 100), [[0], [1, 100 + 200 + 100 + 100 - 300]])
        for place in range(5):
            for number, answer in ((0, [0]), (100, [0]), (101, INVALID), (HUGE, INVALID)):
                factors = [1] * 5
                factors[place] = number
                self.assertEqual(self.tuned(*factors)[0], answer, factors)

    def test_stays_until_tuned_again(self):
        found = run(tune(1, 2, 3, 4, 5), *PREPARED, WHOLE, text(1, 0), worth(1, 1), tune(0, 0, 0, 0, 1), worth(1, 1))
        self.assertEqual([found[3], found[5], found[7]], [[1, 1 + 4 + 3 + 4 - 15], [1, 1 + 2 + 3 + 4 - 5], [1, -1]])


class FrameTest(unittest.TestCase):
    def test_the_ends_of_the_ranges(self):
        for number, answer in ((0, INVALID), (1, [0]), (20, [0]), (21, INVALID), (HUGE, INVALID)):
            self.assertEqual(last(frame(number, 5)), answer, number)
            self.assertEqual(last(frame(5, number)), answer, number)
        self.assertEqual(run(frame(1, 1), frame(20, 20), frame(1, 20), frame(20, 1)), [[0]] * 4)
        self.assertEqual(run(frame(0, 0), frame(0, 21), frame(21, 0), frame(HUGE, HUGE)), [INVALID] * 4)

    def test_changes_no_score(self):
        self.assertEqual(last(*PREPARED, frame(1, 20), WHOLE), last(*PREPARED, WHOLE))

    def framed(self, *calls):
        return last(*FRAMED, *calls, best(2))

    def test_initial_values(self):
        self.assertEqual(self.framed(), [2, 1, 10, 12, 21, 20])
        self.assertEqual(last(*FRAMED, singles(HUGE)), last(*FRAMED, frame(10, 1), singles(HUGE)))

    def test_sets_both(self):
        for w, g in ((1, 1), (3, 17), (17, 3), (20, 1), (1, 20), (20, 20)):
            self.assertEqual(self.framed(frame(w, g)), [2, 1, w, w + g + 1, 2 * w + g, 2 * w])

    def test_stays_until_framed_again(self):
        found = run(frame(3, 17), *FRAMED, best(2), text(), *FRAMED, best(2), frame(2, 1), best(2))
        self.assertEqual([found[4], found[9], found[11]], [[2, 1, 3, 21, 23, 6], [2, 1, 3, 21, 23, 6], [2, 1, 2, 4, 5, 4]])

    def test_a_refusal_sets_neither(self):
        for w, g in ((0, 5), (5, 0), (21, 5), (5, 21), (HUGE, 5), (5, HUGE)):
            self.assertEqual(self.framed(frame(w, g)), [2, 1, 10, 12, 21, 20])
            self.assertEqual(self.framed(frame(3, 17), frame(w, g)), [2, 1, 3, 21, 23, 6])


if __name__ == "__main__":
    unittest.main()
