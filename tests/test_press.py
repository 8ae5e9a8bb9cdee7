import unittest

from calling import ask, last, load, press, relay, run, told

TWO = "in a\nin b\nlamp l at 1\nlamp m at 2\nclose a 0 1\nopen b 0 2\n"


def full():
    """Two hundred things done behind a load; input 0 is off again, input 1 on."""
    return [load(TWO), press(1, 1)] + [press(0, (step + 1) % 2) for step in range(198)] + [run(1)]


class Pressing(unittest.TestCase):
    def test_on_and_off(self):
        got = ask(load(TWO), told(), press(0, 1), told(), press(1, 1), told(), press(0, 0), told())
        self.assertEqual(got[1:], [[0, 0, 2, 0], [0, 1], [0, 1, 3, 0], [0, 1], [0, 3, 1, 0], [0, 1], [0, 2, 0, 0]])

    def test_so_already(self):
        got = ask(load(TWO), press(0, 0), told(), press(0, 1), press(0, 1), told(), press(0, 0), press(0, 0), told())
        self.assertEqual(got[1:], [[0, 0], [0, 0, 2, 0], [0, 1], [0, 0], [0, 1, 3, 0], [0, 1], [0, 0], [0, 0, 2, 0]])

    def test_no_time_passes(self):
        text = "in a\nrelay r at 1 up 5\nclose a 0 1\n"
        got = ask(load(text), press(0, 1), run(2), told(), press(0, 0), told(), press(0, 1), told(), run(4))
        self.assertEqual(got[3], [0, 1, 0, 2, 2])
        self.assertEqual(got[5], [0, 0, 0, 2, 2])
        # Let go and pressed again with no tick between, it waits on.
        self.assertEqual(got[7:], [[0, 1, 0, 2, 2], [0, 4, 1, 0, relay(0), 0]])

    def test_the_last_input(self):
        text = "".join(f"in a{place}\n" for place in range(16))
        self.assertEqual(ask(load(text), press(15, 1), told(), press(16, 1))[1:], [[0, 1], [0, 32768, 0, 0], [-4]])


class Refusals(unittest.TestCase):
    def test_no_scheme_comes_first(self):
        for call in (press(0, 1), press(0, 2), press(-1, 0), press(99, 99)):
            self.assertEqual(last(call), [-3])

    def test_on_is_nought_or_one(self):
        for on in (-65536, -1, 2, 65535):
            self.assertEqual(last(load(TWO), press(0, on)), [-1])

    def test_on_comes_before_the_input(self):
        for place in (-1, 2, 16):
            self.assertEqual(last(load(TWO), press(place, 2)), [-1])

    def test_no_such_input(self):
        for place in (-65536, -1, 2, 15, 16, 65535):
            for on in (0, 1):
                self.assertEqual(last(load(TWO), press(place, on)), [-4])
        self.assertEqual(last(load(""), press(0, 0)), [-4])
        # Relays are variables, but no inputs.
        self.assertEqual(last(load("in a\nrelay r at 1\n"), press(16, 1)), [-4])

    def test_a_refusal_changes_nothing(self):
        for call in (press(0, 2), press(2, 1), press(-1, 1)):
            self.assertEqual(last(load(TWO), press(1, 1), call, told()), [0, 2, 0, 0])


class TwoHundred(unittest.TestCase):
    def test_the_last_thing_that_may_be_done(self):
        self.assertEqual(ask(*full())[-1], [0, 1, 0, 0])
        self.assertEqual(last(*full(), told()), [0, 2, 0, 1])

    def test_one_more_is_refused(self):
        self.assertEqual(ask(*full(), press(0, 1), press(1, 0), told())[-3:], [[-7], [-7], [0, 2, 0, 1]])

    def test_what_is_so_already_is_not(self):
        self.assertEqual(ask(*full(), press(0, 0), press(1, 1))[-2:], [[0, 0], [0, 0]])

    def test_the_other_refusals_come_first(self):
        self.assertEqual(ask(*full(), press(0, 2), press(2, 1), press(2, 2))[-3:], [[-1], [-4], [-1]])

    def test_only_what_is_done_counts(self):
        idle = [press(0, 0), run(0), press(0, 2), press(5, 1), run(-1), told()] * 8
        calls = [load(TWO)] + idle + [press(0, (step + 1) % 2) for step in range(201)]
        self.assertEqual(ask(*calls)[-2:], [[0, 1], [-7]])


if __name__ == "__main__":
    unittest.main()
