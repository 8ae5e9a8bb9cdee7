import unittest

from calling import ask, last, load, press, relay, run, told
from lamppanel.clock import Clock, pass_quietly, quiet_ticks, tick
from lamppanel.reading import read_scheme

# A relay whose own opener feeds it: it turns at every tick.
BUZZER = "relay r at 1\nlamp l at 1\nlamp m at 2\nopen r 0 1\nclose r 0 2\n"


class Delays(unittest.TestCase):
    def test_no_delay_turns_at_the_first_tick(self):
        self.assertEqual(ask(load("relay r at 0\n"), run(1), told())[1:],
                         [[0, 1, 1, 0, relay(0), 0], [0, relay(0), 0, 1, 0]])

    def test_up(self):
        begin = [load("relay r at 0 up 3\nlamp l at 1\nclose r 0 1\n")]
        self.assertEqual(ask(*begin, run(3), told(), run(1), told())[1:],
                         [[0, 3, 0, 0], [0, 0, 0, 3, 3], [0, 1, 1, 0, relay(0), 1], [0, relay(0), 1, 4, 0]])

    def test_down(self):
        text = "in a\nrelay r at 1 down 2\nlamp l at 2\nclose a 0 1\nclose r 0 2\n"
        got = ask(load(text), press(0, 1), run(5), press(0, 0), run(2), told(), run(1), told())
        self.assertEqual(got[2], [0, 5, 1, 0, relay(0), 1])
        self.assertEqual(got[4:], [[0, 2, 0, 0], [0, relay(0), 1, 7, 2], [0, 1, 1, 0, relay(0), 0], [0, 0, 0, 8, 0]])

    def test_up_is_not_down(self):
        text = "in a\nrelay r at 1 up 2 down 4\nclose a 0 1\n"
        got = ask(load(text), press(0, 1), run(100, 1), press(0, 0), run(100, 1))
        self.assertEqual([got[2], got[4]], [[0, 3, 1, 1, relay(0), 0], [0, 5, 1, 1, relay(0), 0]])

    def test_one_that_settles_waits_no_more(self):
        text = "in a\nrelay r at 1 up 4\nclose a 0 1\n"
        got = ask(load(text), press(0, 1), run(4), told(), press(0, 0), run(1), told(), press(0, 1), run(4), run(1))
        self.assertEqual(got[3], [0, 1, 0, 4, 4])
        self.assertEqual(got[6:], [[0, 0, 0, 5, 0], [0, 1], [0, 4, 0, 0], [0, 1, 1, 0, relay(0), 0]])

    def test_the_longest_delay(self):
        runs = [run(2000)] * 32 + [run(1535)]
        got = ask(load("relay r at 0 up 65535\n"), *runs, told(), run(1))
        self.assertEqual(got[-2:], [[0, 0, 0, 65535, 65535], [0, 1, 1, 0, relay(0), 0]])


class AtOnce(unittest.TestCase):
    def test_several_turn_at_one_tick(self):
        text = "relay r at 0\nrelay s at 0 up 1\nrelay t at 0\nlamp l at 1\nclose t 0 1\n"
        self.assertEqual(last(load(text), run(5)), [0, 5, 3, 0, relay(0) + relay(2), 1, relay(1), 1])

    def test_all_is_looked_at_as_it_stands_before_the_tick(self):
        # Each feeds the other's coil: both turn on together, then off together, and so on.
        text = "relay r at 1\nrelay s at 2\nopen s 0 1\nopen r 0 2\n"
        both = relay(0) + relay(1)
        self.assertEqual(last(load(text), run(3)), [0, 3, 6, 0, both, 0, both, 0, both, 0])

    def test_a_chain_takes_a_tick_a_relay(self):
        text = "relay a at 0\nrelay b at 1\nrelay c at 2\nclose a 0 1\nclose b 1 2\n"
        self.assertEqual(last(load(text), run(9)), [0, 9, 3, 0, relay(0), 0, relay(1), 0, relay(2), 0])

    def test_the_last_relay_and_the_last_lamp(self):
        text = "".join(f"relay r{place} at 0\n" for place in range(12))
        text += "".join(f"lamp l{place} at 1\n" for place in range(16)) + "close r11 0 1\n"
        self.assertEqual(last(load(text), run(1)), [0, 1, 12, 0, 4095 * relay(0), 65535])

    def test_the_lamps_are_those_behind_the_tick(self):
        self.assertEqual(last(load(BUZZER), run(3)), [0, 3, 3, 0, relay(0), 2, relay(0), 1, relay(0), 2])


class WhatIsLive(unittest.TestCase):
    def test_contacts_carry_in_either_direction(self):
        # The way from the rail to node 1 goes up to node 9 and down again.
        text = "in a\nin b\nlamp l at 1\nlamp m at 9\nclose a 0 9\nclose b 1 9\n"
        got = ask(load(text), press(1, 1), told(), press(0, 1), told(), press(1, 0), told())
        self.assertEqual([got[2], got[4], got[6]], [[0, 2, 0, 0], [0, 3, 3, 0], [0, 1, 2, 0]])

    def test_a_way_through_every_node(self):
        text = "in a\nlamp l at 63\nlamp m at 62\n" + "".join(f"open a {at} {at + 1}\n" for at in reversed(range(63)))
        self.assertEqual(ask(load(text), told(), press(0, 1), told())[1:], [[0, 0, 3, 0], [0, 1], [0, 1, 0, 0]])

    def test_a_ring_away_from_the_rail_is_not_live(self):
        text = "in a\nlamp l at 1\nlamp m at 0\nopen a 1 2\nopen a 2 3\nopen a 1 3\n"
        self.assertEqual(last(load(text), told()), [0, 0, 2, 0])

    def test_two_contacts_between_the_same_nodes(self):
        text = "in a\nlamp l at 1\nopen a 0 1\nclose a 0 1\n"
        self.assertEqual(ask(load(text), told(), press(0, 1), told())[1:], [[0, 0, 1, 0], [0, 1], [0, 1, 1, 0]])


class Ends(unittest.TestCase):
    def test_k_nought_is_no_end(self):
        got = last(load(BUZZER), run(2000, 0))
        self.assertEqual(got[:4], [0, 2000, 2000, 0])
        self.assertEqual(got[4:], [relay(0), 2, relay(0), 1] * 1000)

    def test_k_reached(self):
        self.assertEqual(ask(load(BUZZER), run(10, 2), told())[1:],
                         [[0, 2, 2, 1, relay(0), 2, relay(0), 1], [0, 0, 1, 2, 0]])

    def test_k_not_reached(self):
        self.assertEqual(last(load(BUZZER), run(1, 2)), [0, 1, 1, 0, relay(0), 2])
        self.assertEqual(last(load("relay r at 0\n"), run(50, 2)), [0, 50, 1, 0, relay(0), 0])
        self.assertEqual(last(load(""), run(50, 1)), [0, 50, 0, 0])

    def test_k_reached_at_the_very_last_tick(self):
        self.assertEqual(last(load(BUZZER), run(2, 2)), [0, 2, 2, 1, relay(0), 2, relay(0), 1])
        self.assertEqual(last(load(BUZZER), run(2000, 2000))[:4], [0, 2000, 2000, 1])
        self.assertEqual(last(load(BUZZER), run(1999, 2000))[:4], [0, 1999, 1999, 0])

    def test_k_counts_ticks_and_not_turns(self):
        text = "relay r at 0\nrelay s at 0\nrelay t at 0 up 4\n"
        self.assertEqual(last(load(text), run(10, 2)), [0, 5, 3, 1, relay(0) + relay(1), 0, relay(2), 0])

    def test_k_counts_anew_in_each_run(self):
        self.assertEqual(ask(load(BUZZER), run(5, 1), run(5, 1))[1:],
                         [[0, 1, 1, 1, relay(0), 2], [0, 1, 1, 1, relay(0), 1]])

    def test_n_nought(self):
        for k in (0, 1, 2000):
            self.assertEqual(ask(load(BUZZER), run(0, k), told())[1:], [[0, 0, 0, 0], [0, 0, 1, 0, 0]])


class Bounds(unittest.TestCase):
    def test_no_scheme_comes_first(self):
        for call in (run(1), run(0), run(-1, 0), run(0, 2001)):
            self.assertEqual(last(call), [-3])

    def test_n_and_k_within(self):
        for n in (0, 2000):
            for k in (0, 2000):
                self.assertEqual(last(load(""), run(n, k)), [0, n, 0, 0])

    def test_n_or_k_without(self):
        for wrong in (-65536, -1, 2001, 65535):
            for call in (run(wrong, 0), run(0, wrong), run(wrong, wrong), run(5, wrong)):
                self.assertEqual(ask(load(BUZZER), call, told())[1:], [[-1], [0, 0, 1, 0, 0]])

    def test_two_hundred_things(self):
        begin = [load(BUZZER)] + [run(1)] * 200
        got = ask(*begin, run(1), run(2000, 5), run(0), run(0, 7), run(1, -1), run(2001, 0), told())
        self.assertEqual(got[200], [0, 1, 1, 0, relay(0), 1])
        self.assertEqual(got[201:], [[-7], [-7], [0, 0, 0, 0], [0, 0, 0, 0], [-1], [-1], [0, 0, 1, 200, 0]])

    def test_a_run_is_one_thing_however_long(self):
        self.assertEqual(ask(load(""), *[run(2000)] * 200, run(1), told())[-3:],
                         [[0, 2000, 0, 0], [-7], [0, 0, 0, 400000]])

    def test_a_run_of_nought_is_nothing_done(self):
        self.assertEqual(ask(load(""), *[run(0)] * 50, *[run(1)] * 200, run(1))[-2:], [[0, 1, 0, 0], [-7]])


class CutInPieces(unittest.TestCase):
    TEXT = ("in a\nrelay r at 1 up 3 down 5\nrelay s at 2 up 2\nrelay t at 3 down 7\nlamp l at 2\nlamp m at 3\n"
            "open r 0 1\nclose r 0 2\nopen s 2 3\nclose a 1 3\n")

    def seen(self, pieces):
        got = ask(load(self.TEXT), press(0, 1), *[run(n) for n in pieces], told())
        return got[-1], [number for answer in got[2:-1] for number in answer[4:]]

    def test_pieces_lead_to_the_same_clock_and_tell_the_same(self):
        whole = self.seen([120])
        self.assertGreater(len(whole[1]), 20)
        for pieces in ([1] * 120, [60, 60], [1, 119], [119, 1], [7] * 17 + [1], [0, 50, 0, 70]):
            self.assertEqual(self.seen(pieces), whole, pieces)

    def test_stops_lead_to_the_same_clock_too(self):
        calls = [load(self.TEXT), press(0, 1)]
        passed = 0
        while passed < 120:
            calls.append(run(120 - passed, 1))
            passed += last(*calls)[1]
        self.assertEqual(last(*calls, told()), self.seen([120])[0])


class TheCount(unittest.TestCase):
    def test_behind_the_greatest_count_is_nought(self):
        scheme = read_scheme("relay r at 0 up 9\n")
        clock = tick(scheme, Clock(0, 2 ** 64 - 1, [4]))
        self.assertEqual((clock.state, clock.ticks, clock.waits), (0, 0, [5]))
        self.assertEqual(tick(scheme, Clock(0, 2 ** 64 - 2, [4])).ticks, 2 ** 64 - 1)
        self.assertEqual(tick(scheme, Clock(0, 2 ** 63 - 1, [4])).ticks, 2 ** 63)

    def test_one_that_waited_longer_than_its_delay_turns(self):
        scheme = read_scheme("relay r at 0 up 3\n")
        clock = tick(scheme, Clock(0, 5, [8]))
        self.assertEqual((clock.state, clock.ticks, clock.waits), (relay(0), 6, [0]))


class ManyAtOnce(unittest.TestCase):
    def test_quiet_ticks_lead_to_where_single_ones_lead(self):
        text = "in a\nrelay r at 0 up 30\nrelay s at 0 up 30\nrelay t at 1\nrelay u at 0 up 44\nclose a 0 1\n"
        scheme = read_scheme(text)
        clock = tick(scheme, Clock(0, 2 ** 64 - 20, [0, 6, 9, 1]))
        self.assertEqual([quiet_ticks(scheme, clock, most) for most in (0, 22, 23, 24, 2000)], [0, 22, 23, 23, 23])
        single = clock
        for count in range(24):
            many = pass_quietly(clock, count)
            self.assertEqual((many.state, many.ticks, many.waits), (single.state, single.ticks, single.waits))
            single = tick(scheme, single)
        self.assertEqual((single.state, single.ticks), (relay(1), 5))

    def test_the_delay_down_counts_for_one_that_is_on(self):
        text = "in a\nrelay r at 1 up 3 down 40\nrelay s at 1 up 50 down 2\nclose a 0 1\n"
        got = ask(load(text), press(0, 1), run(1000), told(), press(0, 0), run(1000), told())
        self.assertEqual(got[2], [0, 1000, 2, 0, relay(0), 0, relay(1), 0])
        self.assertEqual(got[5], [0, 1000, 2, 0, relay(1), 0, relay(0), 0])
        for ticks, turned in ((2, 0), (3, 1), (40, 1), (41, 2)):
            self.assertEqual(last(load(text), press(0, 1), run(1000), press(0, 0), run(ticks))[2], turned)

    def test_nothing_ever_turns(self):
        self.assertEqual(ask(load("relay r at 1\nrelay s at 0 up 5000\n"), run(2000), run(1999, 3), told())[1:],
                         [[0, 2000, 0, 0], [0, 1999, 0, 0], [0, 0, 0, 3999, 0, 3999]])


if __name__ == "__main__":
    unittest.main()
