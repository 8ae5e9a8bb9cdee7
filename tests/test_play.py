import unittest

from calling import ask, back, journal, last, load, play, press, relay, run, told, written

# A relay that is pressed by hand, and holds itself; its lamp; a slow bell.
TEXT = ("in a\nin b\nrelay r at 1 up 2\nrelay s at 3 up 3 down 5\nlamp l at 2\n"
        "close a 0 1\nclose r 0 1\nclose r 0 2\nopen s 0 3\n")
LINES = TEXT.count("\n")
DONE = "press a\nrun 2\nrun 7\nlet a\npress b\nrun 2000\n"


def faults(text):
    """What a play of the text tells of it; it is the same on a panel with no scheme and on one that has done things."""
    kept = [load(TEXT), press(1, 1), run(9), told(), journal()]
    got = ask(play(text), told(), *kept, play(text), told(), journal(), back(), journal())
    assert got[0] == got[7] and got[1] == [-3] and got[8:10] == got[5:7], text
    assert got[10] == [0] and written(got[11]) == TEXT + "press b\n"
    assert got[0][0] == 0 and got[0][3:] == [0]
    return got[0][1:3]


class Played(unittest.TestCase):
    def test_what_a_text_leads_to(self):
        got = ask(play(TEXT + DONE), told(), journal())
        done = [load(TEXT), press(0, 1), run(2), run(7), press(0, 0), press(1, 1), run(2000)]
        self.assertEqual(got[0], [0, 0, 0, 6])
        self.assertEqual(got[1:], ask(*done, told(), journal())[-2:])
        self.assertEqual(got[1][1] & (3 + relay(0)), 2 + relay(0))
        self.assertEqual(got[1][3], 2009)

    def test_a_journal_played_anew(self):
        calls = [load(TEXT), run(2), press(0, 1), run(5, 1), run(0), press(0, 1), press(1, 1), run(2000, 7),
                 press(0, 0)]
        first = ask(*calls, told(), journal(), run(40))
        again = ask(play(written(first[-2])), told(), journal(), run(40))
        self.assertEqual(again[0], [0, 0, 0, 6])
        self.assertEqual(again[1:], first[-3:])

    def test_every_journal_on_the_way_leads_to_where_it_was_written(self):
        calls = [load(TEXT)]
        for more in (press(0, 1), run(1), run(2000, 2), press(1, 1), press(0, 0), run(3), press(1, 0), run(17)):
            calls.append(more)
            first = ask(*calls, told(), journal())
            self.assertEqual(ask(play(written(first[-1])), told(), journal())[1:], first[-2:])

    def test_however_the_time_was_cut(self):
        whole = ask(play(TEXT + "press a\nrun 120\n"), told())[1]
        for pieces in ([1] * 120, [60, 60], [1, 119], [119, 1], [7] * 17 + [1]):
            cut = "".join(f"run {ticks}\n" for ticks in pieces)
            self.assertEqual(ask(play(TEXT + "press a\n" + cut), told()), [[0, 0, 0, 1 + len(pieces)], whole])

    def test_no_things_done(self):
        self.assertEqual(ask(play(TEXT), told(), journal()), [[0, 0, 0, 0]] + ask(load(TEXT), told(), journal())[1:])

    def test_the_empty_text(self):
        self.assertEqual(ask(play(""), told(), journal(), press(0, 1)), [[0, 0, 0, 0], [0, 0, 0, 0], [0], [-4]])

    def test_runs_without_a_scheme(self):
        got = ask(play("run 5\nrun 2000\n"), told(), journal())
        self.assertEqual(got[:2], [[0, 0, 0, 2], [0, 0, 0, 2005]])
        self.assertEqual(written(got[2]), "run 5\nrun 2000\n")

    def test_in_the_place_of_what_was(self):
        got = ask(load(TEXT), press(0, 1), run(50), play("in x\npress x\n"), told(), journal(), press(0, 0), journal())
        self.assertEqual(got[3:5], [[0, 0, 0, 1], [0, 1, 0, 0]])
        self.assertEqual(written(got[5]), "in x\npress x\n")
        self.assertEqual(written(got[7]), "in x\npress x\nlet x\n")

    def test_on_and_on(self):
        got = ask(play("in a\npress a\n"), run(3), play("in a\nrun 2\n"), play(""), load("in a\n"), journal())
        self.assertEqual([got[0], got[2], got[3]], [[0, 0, 0, 1], [0, 0, 0, 1], [0, 0, 0, 0]])
        self.assertEqual(written(got[5]), "in a\n")

    def test_things_done_behind_it_are_counted_with_its_own(self):
        got = ask(play("in a\n" + "run 1\n" * 199), press(0, 1), press(0, 0), run(1), told())
        self.assertEqual(got, [[0, 0, 0, 199], [0, 1], [-7], [-7], [0, 1, 0, 199]])

    def test_names_like_the_words(self):
        text = "in press\nin let\nin run\nclose run 0 1\n"
        done = "press press\npress let\nlet press\npress run\nrun 3\nlet run\n"
        self.assertEqual(ask(play(text + done), told(), journal())[:2], [[0, 0, 0, 6], [0, 2, 0, 3]])

    def test_each_input_by_its_name(self):
        text = "".join(f"in a{place}\n" for place in range(16))
        for place in range(16):
            self.assertEqual(ask(play(text + f"press a{place}\n"), told())[1], [0, 2 ** place, 0, 0])


class BehindTheLastEnd(unittest.TestCase):
    def test_it_counts_for_nothing(self):
        for tail in ("x", "press a", "run 7", "in a", " ", "\xff", "run 0", "let b"):
            got = ask(play(TEXT + DONE + tail), journal())
            self.assertEqual(got[0], [0, 0, 0, 6], tail)
            self.assertEqual(written(got[1]), TEXT + DONE)
            self.assertEqual(ask(play(TEXT + tail), journal()), [[0, 0, 0, 0]] + ask(load(TEXT), journal())[1:])

    def test_a_text_with_no_end_of_a_line(self):
        for text in ("in a", "press a", "x", "run 3"):
            self.assertEqual(ask(play(text), journal(), told()), [[0, 0, 0, 0], [0], [0, 0, 0, 0]])

    def test_behind_two_hundred_things(self):
        self.assertEqual(last(play("run 1\n" * 200 + "run 1")), [0, 0, 0, 200])

    def test_a_fault_before_it_is_told(self):
        self.assertEqual(faults("in a\nin a\nrun 1"), [4, 1])


class Length(unittest.TestCase):
    def test_the_longest_text(self):
        tail = "x" * (40000 - len(TEXT + DONE))
        self.assertEqual(ask(play(TEXT + DONE + tail), journal())[0], [0, 0, 0, 6])

    def test_one_byte_more(self):
        tail = "x" * (40001 - len(TEXT + DONE))
        self.assertEqual(ask(play(TEXT + DONE + tail), told()), [[-1], [-3]])
        got = ask(load(TEXT), press(1, 1), run(5), told(), journal(), play(TEXT + DONE + tail), told(), journal())
        self.assertEqual(got[5:], [[-1]] + got[3:5])
        self.assertEqual(last(play("\n" * 40001)), [-1])
        self.assertEqual(last(play("x" * 40100)), [-1])

    def test_a_schemes_text_of_more_than_twenty_thousand_bytes(self):
        many = "in a\n" + "open a 0 1\n" * 2000
        self.assertGreater(len(many), 20000)
        self.assertEqual(faults(many), [3, 257])
        self.assertEqual(faults(many + "press a\n"), [3, 257])
        self.assertEqual(faults(many + "x\n"), [1, 2001])
        self.assertEqual(faults("x" * 39999 + "\n"), [1, 0])
        self.assertEqual(faults("in a\n" * 8000), [3, 16])
        self.assertEqual(faults("\n" * 40000), [1, 0])

    def test_more_than_twenty_thousand_bytes_of_things(self):
        self.assertEqual(faults("run 2000\n" * 2500), [9, 200])


class FaultsOfTheScheme(unittest.TestCase):
    FAULTS = [
        ("in A\n", 1, 0), ("in a\n\n", 1, 1), ("x\n", 1, 0), ("\xff\n", 1, 0), ("in a\nrelay r at 64\n", 1, 1),
        ("relay r at 1 up 0\n", 1, 0), ("relay r at 1 up 65536\n", 1, 0), ("in a\nopen a 1 1\n", 1, 1),
        ("in a\nclose a 2 1\n", 1, 1), ("in a \n", 1, 0), ("in a\nrelay r at 01\n", 1, 1),
        ("relay r at 1\nin a\n", 2, 1), ("in a\nopen a 0 1\nlamp l at 1\n", 2, 2),
        ("".join(f"in a{place}\n" for place in range(17)), 3, 16),
        ("".join(f"relay a{place} at 1\n" for place in range(13)), 3, 12),
        ("".join(f"lamp a{place} at 1\n" for place in range(17)), 3, 16),
        ("in a\n" + "open a 0 1\n" * 257, 3, 257),
        ("in a\nrelay a at 1\n", 4, 1), ("in a\nlamp a at 1\n", 4, 1),
        ("in a\nopen b 0 1\n", 5, 1), ("lamp l at 1\nopen l 0 1\n", 5, 1),
    ]

    def test_each_fault(self):
        for text, kind, line in self.FAULTS:
            self.assertEqual(faults(text), [kind, line], text)

    def test_each_fault_ahead_of_things(self):
        for text, kind, line in self.FAULTS:
            for things in ("run 1\n", "press a\nrun 1\n", "press zz\n", "let a\n", "run 0\n", "run 1\n" * 201):
                self.assertEqual(faults(text + things), [kind, line], text + things)

    def test_words_without_a_blank_behind_them_are_lines_of_the_scheme(self):
        for line in ("press", "let", "run", "pressa", "runs 1", "run1", " run 1", " press a", "Press a", "letter a"):
            self.assertEqual(faults(f"in a\n{line}\n"), [1, 1], line)
            self.assertEqual(faults(f"in a\n{line}\nrun 1\nrun 0\n"), [1, 1], line)

    def test_the_least_kind_first(self):
        self.assertEqual(faults("in a\nopen b 0 1\nin a\n"), [2, 2])
        self.assertEqual(faults("in a\nin a\nx\nrun 0\n"), [1, 2])


class LinesThatCantBeDone(unittest.TestCase):
    def test_of_no_shape(self):
        for line in ("run 0", "run 01", "run 2001", "run 10000", "run 65537", "run -1", "run +1", "run", "run ",
                     "run  1", "run 1 ", "run 1 1", "run 1 run 1", "run a", "run 1x", "run 1.", "run \xb2",
                     "run " + "9" * 5000, "run 00", "run 002000", "press", "press ", "press  a", "press a ",
                     "press a b", "press A", "press 1", "press 1a", "press a-b",
                     "press abcdefghijklm", "press \xe9", "press a\r", "press a\t", "let", "let ", "let a a", "let 0",
                     "let a 1", "let A", "", " ", "x", "in c", "in a", "relay q at 1", "lamp q at 1", "open a 0 1",
                     "close a 0 1", "Run 1", "RUN 1", "press\ta", "back", "press,a", " run 1", "\x00", "\xff"):
            self.assertEqual(faults(f"{TEXT}run 1\n{line}\n"), [6, LINES + 1], line)
            self.assertEqual(faults(f"{TEXT}press a\nrun 1\n{line}\nrun 0\n"), [6, LINES + 2], line)

    def test_of_no_shape_at_the_first_such_line(self):
        for line in ("run 0", "run 01", "run 2001", "run ", "run  1", "run 1 ", "press ", "press A", "press a b",
                     "let  a"):
            self.assertEqual(faults(f"{TEXT}{line}\n"), [6, LINES], line)
            self.assertEqual(faults(f"{line}\n"), [6, 0], line)

    def test_the_bounds_of_a_run(self):
        for ticks in (1, 9, 10, 1999, 2000):
            self.assertEqual(ask(play(f"run {ticks}\n"), told()), [[0, 0, 0, 1], [0, 0, 0, ticks]])

    def test_no_input_has_that_name(self):
        for name in ("c", "aa", "r", "s", "l", "press", "run", "abcdefghijkl"):
            for word in ("press", "let"):
                self.assertEqual(faults(f"{TEXT}{word} {name}\n"), [7, LINES], name)
                self.assertEqual(faults(f"{TEXT}press a\nlet a\n{word} {name}\n"), [7, LINES + 2], name)
        self.assertEqual(faults("press a\n"), [7, 0])

    def test_so_already(self):
        self.assertEqual(faults(f"{TEXT}let a\n"), [8, LINES])
        self.assertEqual(faults(f"{TEXT}press a\npress a\n"), [8, LINES + 1])
        self.assertEqual(faults(f"{TEXT}press a\nrun 5\nlet b\n"), [8, LINES + 2])
        self.assertEqual(faults(f"{TEXT}press a\nlet a\nrun 5\nlet a\n"), [8, LINES + 3])
        self.assertEqual(faults(f"{TEXT}press a\npress b\nlet a\npress b\n"), [8, LINES + 3])

    def test_two_hundred_things(self):
        self.assertEqual(last(play(TEXT + "press a\nlet a\n" * 100)), [0, 0, 0, 200])
        self.assertEqual(last(play(TEXT + "run 1\n" * 200)), [0, 0, 0, 200])
        for full in ("press a\nlet a\n" * 100, "run 3\n" * 200):
            for more in ("press a\n", "press b\n", "run 1\n", "run 2000\nx\n"):
                self.assertEqual(faults(TEXT + full + more), [9, LINES + 200], more)

    def test_the_other_reasons_come_first(self):
        full = TEXT + "press a\n" + "run 1\n" * 199
        for line, kind in (("run 0", 6), ("run 2001", 6), ("", 6), ("in c", 6), ("press A", 6), ("press r", 7),
                           ("let c", 7), ("press a", 8), ("let b", 8), ("let a", 9), ("press b", 9), ("run 1", 9)):
            self.assertEqual(faults(f"{full}{line}\n"), [kind, LINES + 200], line)

    def test_the_first_line_and_not_the_least_kind(self):
        self.assertEqual(faults(f"{TEXT}press r\nrun 0\n"), [7, LINES])
        self.assertEqual(faults(f"{TEXT}let a\npress r\nrun 0\n"), [8, LINES])
        self.assertEqual(faults(f"{TEXT}run 0\nlet a\n"), [6, LINES])
        self.assertEqual(faults(TEXT + "run 1\n" * 201 + "run 0\n"), [9, LINES + 200])


class APanelOfItsOwn(unittest.TestCase):
    def test_what_was_done_before_counts_for_nothing(self):
        before = [load("in a\n"), press(0, 1)] + [run(1)] * 199
        got = ask(*before, run(1), play("in a\npress a\nrun 4\n"), told(), journal())
        self.assertEqual(got[-4:-1], [[-7], [0, 0, 0, 2], [0, 1, 0, 4]])
        self.assertEqual(written(got[-1]), "in a\npress a\nrun 4\n")

    def test_the_names_of_the_scheme_before_are_gone(self):
        self.assertEqual(ask(load("in a\n"), play("in b\npress a\n"), play("press a\n"), press(0, 1))[1:],
                         [[0, 7, 1, 0], [0, 7, 0, 0], [0, 1]])

    def test_a_fault_leaves_the_waits(self):
        begin = [load("relay r at 0 up 9\n"), run(4)]
        got = ask(*begin, play("relay r at 0 up 9\nrun 7\nrun 0\n"), told(), run(6, 1))
        self.assertEqual(got[2:], [[0, 6, 2, 0], [0, 0, 0, 4, 4], [0, 6, 1, 1, relay(0), 0]])


if __name__ == "__main__":
    unittest.main()
