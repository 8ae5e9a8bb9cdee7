import contextlib
import io
import time
import unittest

from calling import load, press, run, told
from lamppanel.panel import UnknownCall, answers

TEXT = "in a\nrelay r at 1 up 1\nlamp l at 2\nclose a 0 1\nclose r 0 2\n"
CALLS = told() + load(TEXT) + press(0, 1) + press(7, 1) + run(3, 0) + press(0, 5) + run(1, 9999) + told() + load("x")
ANSWERS = [1, -3, 3, 0, 0, 0, 2, 0, 1, 1, -4, 6, 0, 3, 1, 0, 65536, 1, 1, -1, 1, -1,
           5, 0, 65537, 1, 3, 0, 3, 0, 1, 0]


class Answers(unittest.TestCase):
    def test_several_calls_and_refusals_among_them(self):
        self.assertEqual(answers(list(CALLS)), ANSWERS)

    def test_each_call_by_itself(self):
        self.assertEqual(answers([1, 0]), [3, 0, 0, 0])
        self.assertEqual(answers([1, 5, 105, 110, 32, 97, 10]), [3, 0, 0, 0])
        self.assertEqual(answers([1, 1, 255]), [3, 0, 1, 0])
        self.assertEqual(answers([2, 0, 1]), [1, -3])
        self.assertEqual(answers([3, 0, 0]), [1, -3])
        self.assertEqual(answers([4]), [1, -3])

    def test_a_number_of_no_call_is_not_guessed_at(self):
        for number in (-1, 0, 8):
            with self.assertRaises(UnknownCall):
                answers([number])

    def test_what_is_handed_in_stays(self):
        calls = list(CALLS)
        answers(calls)
        self.assertEqual(calls, CALLS)

    def test_the_same_again(self):
        calls = list(CALLS)
        self.assertEqual(answers(calls), ANSWERS)
        self.assertEqual(answers([4]), [1, -3])
        self.assertEqual(answers(calls), ANSWERS)

    def test_what_is_given_back_is_not_kept(self):
        calls = load("relay r at 0 up 5\n") + run(2) + told() + told()
        first = answers(calls)
        kept = list(first)
        first[:] = [99] * len(first)
        self.assertEqual(answers(calls), kept)

    def test_whole_numbers_in_a_list_alone(self):
        got = answers(list(CALLS))
        self.assertIs(type(got), list)
        self.assertEqual({type(number) for number in got}, {int})

    def test_it_prints_nothing(self):
        out = io.StringIO()
        with contextlib.redirect_stdout(out), contextlib.redirect_stderr(out):
            answers(list(CALLS))
        self.assertEqual(out.getvalue(), "")

    def test_a_long_list_is_gone_through_in_little_time(self):
        ring = "".join(f"relay r{place} at {place + 1}\n" for place in range(12)) + "lamp l at 63\n"
        ring += "".join(f"open r{place} 0 {(place + 1) % 12 + 1}\n" for place in range(12))
        ring += "".join(f"close r{place % 12} {place % 63} {place % 63 + 1}\n" for place in range(244))
        calls = load(ring) + run(2000) * 200 + told() * 98
        begin = time.monotonic()
        got = answers(calls)
        self.assertLess(time.monotonic() - begin, 60)
        self.assertEqual(got[:3], [3, 0, 0])

    def test_many_calls(self):
        self.assertEqual(answers(load("in a\n") + [2, 0, 1, 2, 0, 0] * 100 + told() * 99),
                         [3, 0, 0, 0] + [2, 0, 1] * 200 + [4, 0, 0, 0, 0] * 99)


if __name__ == "__main__":
    unittest.main()
