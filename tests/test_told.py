import unittest

from calling import ask, last, load, press, relay, run, told


class Told(unittest.TestCase):
    def test_no_scheme(self):
        self.assertEqual(last(told()), [-3])
        self.assertEqual(ask(told(), told(), load(""), told()), [[-3], [-3], [0, 0, 0], [0, 0, 0, 0]])

    def test_state_lamps_ticks_and_waits(self):
        text = ("in a\nin b\nrelay r at 0\nrelay s at 0 up 7\nrelay t at 5\nlamp l at 0\nlamp m at 1\nlamp n at 2\n"
                "close b 0 1\nclose r 0 2\n")
        got = ask(load(text), told(), press(1, 1), told(), run(4), told(), run(4), told())
        self.assertEqual(got[1], [0, 0, 1, 0, 0, 0, 0])
        self.assertEqual(got[3], [0, 2, 3, 0, 0, 0, 0])
        self.assertEqual(got[5], [0, 2 + relay(0), 7, 4, 0, 4, 0])
        self.assertEqual(got[7], [0, 2 + relay(0) + relay(1), 7, 8, 0, 0, 0])

    def test_a_wait_for_each_relay(self):
        for count in range(13):
            text = "".join(f"relay r{place} at 0 up {place + 1}\n" for place in range(count))
            self.assertEqual(last(load(text), run(1), told()), [0, 0, 0, 1] + [1] * count)

    def test_lamps_without_relays_or_inputs(self):
        self.assertEqual(last(load("lamp l at 0\nlamp m at 1\nlamp n at 0\n"), told()), [0, 0, 5, 0])

    def test_it_changes_nothing(self):
        begin = [load("relay r at 0 up 5\n"), run(3)]
        self.assertEqual(ask(*begin, told(), told(), run(3))[2:],
                         [[0, 0, 0, 3, 3], [0, 0, 0, 3, 3], [0, 3, 1, 0, relay(0), 0]])


if __name__ == "__main__":
    unittest.main()
