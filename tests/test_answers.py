import contextlib
import io
import itertools
import time
import unittest

from calling import ask, back, journal, load, play, press, run, told
from lamppanel.panel import UnknownCall, answers

TEXT = "in a\nrelay r at 1 up 1\nlamp l at 2\nclose a 0 1\nclose r 0 2\n"
BYTES = list(TEXT.encode("ascii"))
CALLS = (told() + journal() + back() + load(TEXT) + back() + press(0, 1) + press(7, 1) + run(3, 0) + press(0, 5)
         + run(1, 9999) + told() + load("x") + play("run 1\nrun 0\n") + journal() + back() + told() + journal()
         + play("in b\npress b\nrun 12\nx") + journal() + back() + told() + play("x" * 40001) + told())
ANSWERS = ([1, -3] * 3 + [3, 0, 0, 0, 1, -5, 2, 0, 1, 1, -4, 6, 0, 3, 1, 0, 65536, 1, 1, -1, 1, -1]
           + [5, 0, 65537, 1, 3, 0, 3, 0, 1, 0, 4, 0, 6, 1, 0]
           + [1 + len(BYTES) + 14, 0] + BYTES + list(b"press a\nrun 3\n") + [1, 0, 5, 0, 1, 0, 0, 0]
           + [1 + len(BYTES) + 8, 0] + BYTES + list(b"press a\n") + [4, 0, 0, 0, 2]
           + [21, 0] + list(b"in b\npress b\nrun 12\n") + [1, 0, 4, 0, 1, 0, 0, 1, -1, 4, 0, 1, 0, 0])


class Answers(unittest.TestCase):
    def test_several_calls_and_refusals_among_them(self):
        self.assertEqual(answers(list(CALLS)), ANSWERS)

    def test_each_call_by_itself(self):
        self.assertEqual(answers([1, 0]), [3, 0, 0, 0])
        self.assertEqual(answers([1, 5, 105, 110, 32, 97, 10]), [3, 0, 0, 0])
        self.assertEqual(answers([1, 1, 255]), [3, 0, 1, 0])
        self.assertEqual(answers([2, 0, 1]), [1, -3])
        self.assertEqual(answers([3, 0, 0]), [1, -3])
        self.assertEqual(answers([4]), [1, -3])
        self.assertEqual(answers([5]), [1, -3])
        self.assertEqual(answers([6, 0]), [4, 0, 0, 0, 0])
        self.assertEqual(answers([6, 6, 114, 117, 110, 32, 55, 10]), [4, 0, 0, 0, 1])
        self.assertEqual(answers([6, 2, 255, 10]), [4, 0, 1, 0, 0])
        self.assertEqual(answers([7]), [1, -3])

    def test_in_any_order(self):
        calls = [load(TEXT), press(0, 1), run(2), told(), journal(), play(TEXT + "press a\nrun 4\n"), back()]
        for order in itertools.permutations(range(7)):
            given = [calls[place] for place in order]
            got = ask(*given)
            scheme = False
            for place, one in zip(order, got):
                if place == 0 or place == 5:
                    scheme = True
                    self.assertEqual(one[0], 0)
                else:
                    self.assertEqual(one == [-3], not scheme, order)
            # What a call answers hangs on those before it, and not on those behind it.
            for count in range(1, 7):
                self.assertEqual(ask(*given[:count]), got[:count])

    def test_a_number_of_no_call_is_not_guessed_at(self):
        for number in (-1, 0, 8):
            with self.assertRaises(UnknownCall):
                answers([number])

    def test_what_is_handed_in_stays(self):
        calls = list(CALLS)
        answers(calls)
        self.assertEqual(calls, CALLS)

    def test_the_same_again(self):
        calls = list(CALLS)
        self.assertEqual(answers(calls), ANSWERS)
        self.assertEqual(answers([4]), [1, -3])
        self.assertEqual(answers(calls), ANSWERS)

    def test_what_is_given_back_is_not_kept(self):
        calls = load("relay r at 0 up 5\n") + run(2) + told() + told()
        first = answers(calls)
        kept = list(first)
        first[:] = [99] * len(first)
        self.assertEqual(answers(calls), kept)

    def test_an_answer_is_not_what_the_panel_keeps(self):
        calls = [load(TEXT), press(0, 1), run(1)] + [told(), journal()] * 2 + [back(), back(), told(), journal()]
        got = ask(*calls)
        self.assertEqual(got[3:5], got[5:7])
        self.assertEqual(got[9:], [[0, 0, 0, 0, 0], [0] + BYTES])

    def test_whole_numbers_in_a_list_alone(self):
        got = answers(list(CALLS))
        self.assertIs(type(got), list)
        self.assertEqual({type(number) for number in got}, {int})

    def test_it_prints_nothing(self):
        out = io.StringIO()
        with contextlib.redirect_stdout(out), contextlib.redirect_stderr(out):
            answers(list(CALLS))
        self.assertEqual(out.getvalue(), "")

    def test_a_long_list_is_gone_through_in_little_time(self):
        ring = "".join(f"relay r{place} at {place + 1}\n" for place in range(12)) + "lamp l at 63\n"
        ring += "".join(f"open r{place} 0 {(place + 1) % 12 + 1}\n" for place in range(12))
        ring += "".join(f"close r{place % 12} {place % 63} {place % 63 + 1}\n" for place in range(244))
        calls = load(ring) + run(2000) * 200 + told() * 98
        begin = time.monotonic()
        got = answers(calls)
        self.assertLess(time.monotonic() - begin, 60)
        self.assertEqual(got[:3], [3, 0, 0])

    def test_many_plays_in_little_time(self):
        slow = "".join(f"relay r{place} at 0 up {65535 - place}\n" for place in range(12))
        text = slow + "run 2000\n" * 200
        begin = time.monotonic()
        got = answers(play(text) * 25)
        self.assertLess(time.monotonic() - begin, 60)
        self.assertEqual(got, [4, 0, 0, 0, 200] * 25)

    def test_the_longest_list(self):
        text = "in a\n" + "press a\nlet a\n" * 100
        calls = play(text + "x" * (40000 - len(text))) + journal() * 2 + back() * 200 + load("x" * 17000) + told() * 96
        self.assertLessEqual(len(calls), 58000)
        line = [1 + len(text), 0] + list(text.encode("ascii"))
        self.assertEqual(answers(calls),
                         [4, 0, 0, 0, 200] + line * 2 + [1, 0] * 200 + [3, 0, 1, 0] + [4, 0, 0, 0, 0] * 96)

    def test_many_calls(self):
        self.assertEqual(answers(load("in a\n") + [2, 0, 1, 2, 0, 0] * 100 + told() * 99),
                         [3, 0, 0, 0] + [2, 0, 1] * 200 + [4, 0, 0, 0, 0] * 99)


if __name__ == "__main__":
    unittest.main()
