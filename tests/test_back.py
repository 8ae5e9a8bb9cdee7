import unittest

from calling import ask, back, journal, last, load, play, press, relay, run, told, written

TEXT = ("in a\nin b\nrelay r at 1 up 4 down 2\nrelay s at 2 up 9\nlamp l at 2\nclose a 0 1\nclose r 0 2\nclose b 0 2\n")
BUZZER = "in a\nrelay r at 1\nlamp l at 1\nopen r 0 1\n"


class TakenBack(unittest.TestCase):
    def test_one_after_another_down_to_nothing_done(self):
        things = [press(0, 1), run(3), press(1, 1), run(2), run(2000, 1), press(0, 0), run(1), press(1, 0), run(40)]
        stands = []
        calls = [load(TEXT)]
        for thing in things:
            stands.append(ask(*calls, told(), journal())[-2:])
            calls.append(thing)
        for stand in reversed(stands):
            calls.append(back())
            self.assertEqual(ask(*calls, told(), journal())[-3:], [[0]] + stand)
        self.assertEqual(ask(*calls, back(), told(), journal())[-3:], [[-5]] + stands[0])

    def test_a_press(self):
        got = ask(load(TEXT), press(1, 1), back(), told(), journal(), back())
        self.assertEqual([got[2], got[3], got[5]], [[0], [0, 0, 0, 0, 0, 0], [-5]])
        self.assertEqual(written(got[4]), TEXT)

    def test_a_let(self):
        got = ask(load(TEXT), press(1, 1), press(1, 0), back(), told(), journal())
        self.assertEqual(got[3:5], [[0], [0, 2, 1, 0, 0, 0]])
        self.assertEqual(written(got[5]), TEXT + "press b\n")

    def test_a_run_with_its_ticks_and_waits(self):
        got = ask(load(TEXT), press(0, 1), run(3), told(), run(5), told(), back(), told(), run(2))
        self.assertEqual(got[3], [0, 1, 0, 3, 3, 0])
        self.assertEqual(got[5], [0, 1 + relay(0), 1, 8, 0, 3])
        self.assertEqual(got[6:], [[0], got[3], [0, 2, 1, 0, relay(0), 1]])

    def test_a_press_takes_no_wait_along(self):
        # Let go with no tick behind it, the relay has still waited, and so it has when that's taken back.
        got = ask(load(TEXT), press(0, 1), run(3), press(0, 0), back(), told(), run(2, 1))
        self.assertEqual(got[5:], [[0, 1, 0, 3, 3, 0], [0, 2, 1, 1, relay(0), 1]])

    def test_a_run_that_ended_at_its_kth(self):
        got = ask(load(BUZZER), run(1), told(), run(50, 4), told(), back(), told(), journal(), back(), back())
        self.assertEqual(got[4], [0, relay(0), 0, 5, 0])
        self.assertEqual(got[5:7] + got[8:], [[0], got[2], [0], [-5]])
        self.assertEqual(written(got[7]), BUZZER + "run 1\n")

    def test_what_did_nothing_is_not_taken_back(self):
        got = ask(load(BUZZER), press(0, 1), run(3), press(0, 1), run(0), run(0, 2), press(0, 9), run(-1), told(),
                  play("x\n"), load("x\n"), back(), told(), back(), back())
        self.assertEqual(got[11:], [[0], [0, 1, 1, 0, 0], [0], [-5]])


class AndOn(unittest.TestCase):
    def test_other_things_done(self):
        got = ask(load(TEXT), press(0, 1), run(7), back(), press(1, 1), run(2), told(), journal())
        self.assertEqual(got[6:], ask(load(TEXT), press(0, 1), press(1, 1), run(2), told(), journal())[-2:])
        self.assertEqual(written(got[7]), TEXT + "press a\npress b\nrun 2\n")

    def test_the_same_done_again(self):
        got = ask(load(TEXT), press(0, 1), run(7), told(), journal(), back(), run(7), told(), journal())
        self.assertEqual(got[7:], got[3:5])

    def test_behind_two_hundred_things(self):
        calls = [load("in a\n")] + [run(1)] * 200
        got = ask(*calls, press(0, 1), back(), press(0, 1), run(1), told(), back(), run(9), run(1), told(), journal())
        self.assertEqual(got[201:-1],
                         [[-7], [0], [0, 1], [-7], [0, 1, 0, 199], [0], [0, 9, 0, 0], [-7], [0, 0, 0, 208]])
        self.assertEqual(written(got[-1]), "in a\n" + "run 1\n" * 199 + "run 9\n")

    def test_two_hundred_taken_back(self):
        done = "press a\nrun 3\nlet a\nrun 4\n" * 50
        got = ask(play(TEXT + done), *[back()] * 200, told(), journal(), back())
        self.assertEqual(got[:-2], [[0, 0, 0, 200]] + [[0]] * 200 + [[0, 0, 0, 0, 0, 0]])
        self.assertEqual([written(got[-2]), got[-1]], [TEXT, [-5]])

    def test_behind_a_play(self):
        things = ["press a\n", "run 3\n", "run 3\n", "press b\n", "run 12\n", "let a\n", "run 2\n"]
        calls = [load(BUZZER), run(9), play(TEXT + "".join(things))]
        while things:
            things.pop()
            calls.append(back())
            text = TEXT + "".join(things)
            got = ask(*calls, told(), journal())
            self.assertEqual(got[-2:], ask(play(text), told(), journal())[1:])
            self.assertEqual(written(got[-1]), text)
        # The play itself is no thing that was done, nor is what had been done before it.
        self.assertEqual(last(*calls, back()), [-5])

    def test_behind_a_play_with_a_fault(self):
        got = ask(load(BUZZER), run(9), play(TEXT + "run 1\nrun 0\n"), back(), told(), back())
        self.assertEqual(got[2:], [[0, 6, 9, 0], [0], [0, 0, 1, 0, 0], [-5]])

    def test_a_load_leaves_nothing_to_take_back(self):
        self.assertEqual(ask(load(TEXT), run(3), load(TEXT), back(), press(0, 1), back(), back())[3:],
                         [[-5], [0, 1], [0], [-5]])

    def test_a_journal_behind_it_leads_to_the_same(self):
        first = ask(load(TEXT), press(0, 1), run(9), press(1, 1), back(), back(), run(4), told(), journal())
        self.assertEqual(ask(play(written(first[-1])), told(), journal()), [[0, 0, 0, 2]] + first[-2:])


class Refusals(unittest.TestCase):
    def test_no_scheme(self):
        self.assertEqual(ask(back(), load("in"), back(), play("in\n"), back())[::2], [[-3], [-3], [-3]])

    def test_nothing_done(self):
        self.assertEqual(ask(load(""), back(), play(""), back(), told())[1::2], [[-5], [-5]])
        got = ask(load(TEXT), told(), journal(), back(), told(), journal(), back())
        self.assertEqual(got[3:], [[-5]] + got[1:3] + [[-5]])


if __name__ == "__main__":
    unittest.main()
