import unittest

from calling import ask, back, journal, last, load, play, press, relay, run, told, written

# Each sort of line, with delays told and not told.
ALL = ("in a\nin start9\nrelay r at 1\nrelay s at 2 up 3\nrelay t at 63 down 65535\nrelay u at 0 up 1 down 10\n"
       "lamp l at 0\nlamp red at 63\nopen a 0 1\nclose start9 1 2\nopen r 0 63\nclose u 9 10\n")
BUZZER = "in a\nrelay r at 1\nopen r 0 1\n"
LONGEST = ("".join(f"in longinput{place:03}\n" for place in range(16))
           + "".join(f"relay longrelay{place:03} at 63 up 65535 down 65535\n" for place in range(12))
           + "".join(f"lamp longlights{place:02} at 63\n" for place in range(16))
           + "close longrelay011 62 63\n" * 256)


class TheSchemesText(unittest.TestCase):
    def test_nothing_done(self):
        self.assertEqual(written(last(load(ALL), journal())), ALL)

    def test_the_empty_scheme(self):
        self.assertEqual(last(load(""), journal()), [0])
        self.assertEqual(written(last(load(""), run(3), journal())), "run 3\n")

    def test_number_by_number(self):
        self.assertEqual(last(load("in a\n"), press(0, 1), journal()),
                         [0, 105, 110, 32, 97, 10, 112, 114, 101, 115, 115, 32, 97, 10])

    def test_each_sort_of_line_alone(self):
        for text in ("in a\n", "relay r at 0\n", "relay r at 9 up 1\n", "relay r at 63 down 65535\n",
                     "relay r at 10 up 65535 down 1\n", "lamp l at 63\n", "in a\nopen a 0 63\n",
                     "in a\nclose a 9 10\n"):
            self.assertEqual(written(last(load(text), journal())), text)

    def test_the_longest_scheme(self):
        self.assertEqual(written(last(load(LONGEST), journal())), LONGEST)

    def test_it_is_that_of_the_last_load(self):
        got = ask(load(ALL), press(0, 1), run(2), load(BUZZER), journal(), press(0, 1), load("in"), journal())
        self.assertEqual([written(got[4]), written(got[7])], [BUZZER, BUZZER + "press a\n"])


class WhatWasDone(unittest.TestCase):
    def test_press_let_and_run_in_order(self):
        got = last(load(ALL), press(1, 1), run(2000), press(0, 1), press(1, 0), run(1), press(0, 0), journal())
        self.assertEqual(written(got), ALL + "press start9\nrun 2000\npress a\nlet start9\nrun 1\nlet a\n")

    def test_what_is_the_same_is_not_drawn_together(self):
        self.assertEqual(written(last(load("in a\n"), run(2), run(2), journal())), "in a\nrun 2\nrun 2\n")

    def test_a_run_that_ended_early_is_told_by_the_ticks_that_passed(self):
        self.assertEqual(written(last(load(BUZZER), run(50, 3), journal())), BUZZER + "run 3\n")
        slow = "relay r at 0 up 6\n"
        self.assertEqual(written(last(load(slow), run(2000, 1), run(2000, 1), journal())), slow + "run 7\nrun 2000\n")

    def test_what_does_nothing_leaves_no_line(self):
        idle = [press(0, 0), run(0), run(0, 5), press(0, 2), press(1, 1), press(-1, 0), run(2001), run(1, -1), told(),
                journal(), load("in a"), load("x\n"), load(" " * 20001), play("in\n"), play(" " * 40001), back()]
        self.assertEqual(written(last(load(BUZZER), *idle, journal())), BUZZER)
        self.assertEqual(written(last(load(BUZZER), press(0, 1), press(0, 1), *idle[1:6], journal())),
                         BUZZER + "press a\n")

    def test_two_hundred_lines_and_no_more(self):
        done = "press a\nlet a\n" * 99 + "run 7\nrun 8\n"
        calls = [load("in a\n")] + [press(0, 1), press(0, 0)] * 99 + [run(7), run(8)]
        self.assertEqual(written(last(*calls, run(1), press(0, 1), journal())), "in a\n" + done)

    def test_it_changes_nothing(self):
        got = ask(load(BUZZER), run(1), told(), journal(), told(), journal(), run(1))
        self.assertEqual(got[2:4], got[4:6])
        self.assertEqual(got[6], [0, 1, 1, 0, relay(0), 0])


class Refusals(unittest.TestCase):
    def test_no_scheme(self):
        self.assertEqual(last(journal()), [-3])
        self.assertEqual(ask(load("in"), journal(), play("x\n"), journal())[1::2], [[-3], [-3]])


if __name__ == "__main__":
    unittest.main()
