import unittest

from calling import ask, last, load, press, relay, run, told

FINE = [0, 0, 0]
ALL_SORTS = "in a\nin b\nrelay r at 2 up 3 down 4\nlamp l at 5\nopen a 0 2\nclose r 2 5\n"


def fault(text):
    return last(load(text))


def names(word, count, tail=""):
    return "".join(f"{word} {word[0]}{place}{tail}\n" for place in range(count))


class Schemes(unittest.TestCase):
    def test_every_sort_of_line(self):
        self.assertEqual(fault(ALL_SORTS), FINE)

    def test_each_sort_by_itself(self):
        for text in ("in a\n", "relay r at 0\n", "lamp l at 63\n", "in a\nopen a 0 63\n", "in a\nclose a 62 63\n"):
            self.assertEqual(fault(text), FINE, text)

    def test_the_empty_text_is_a_scheme_of_nothing(self):
        self.assertEqual(ask(load(""), told(), run(3), told()),
                         [FINE, [0, 0, 0, 0], [0, 3, 0, 0], [0, 0, 0, 3]])

    def test_a_relay_tells_its_delays_or_does_not(self):
        for tail in ("", " up 1", " down 1", " up 65535 down 65535"):
            self.assertEqual(fault(f"relay r at 1{tail}\n"), FINE, tail)

    def test_words_of_the_lines_are_names_too(self):
        text = "in in\nin at\nrelay relay at 1 up 2\nrelay up at 2 down 1\nlamp down at 3\nopen in 0 1\nclose up 1 2\n"
        self.assertEqual(fault(text), FINE)

    def test_as_many_as_there_may_be(self):
        text = names("in", 16) + names("relay", 12, " at 1") + names("lamp", 16, " at 2") + "open i0 0 1\n" * 256
        self.assertEqual(fault(text), FINE)

    def test_a_loaded_panel_is_at_its_beginning(self):
        self.assertEqual(last(load(ALL_SORTS), told()), [0, 0, 0, 0, 0])

    def test_loaded_again_it_is_at_its_beginning_again(self):
        text = "in a\nrelay r at 0\nrelay s at 0 up 9\n"
        got = ask(load(text), press(0, 1), run(2), told(), load(text), told())
        self.assertEqual(got[3:], [[0, 1 + relay(0), 0, 2, 0, 2], FINE, [0, 0, 0, 0, 0, 0]])

    def test_loaded_again_nothing_has_been_done(self):
        presses = [press(0, (step + 1) % 2) for step in range(200)]
        self.assertEqual(ask(load("in a\n"), *presses, press(0, 1), load("in a\n"), press(0, 1))[-3:],
                         [[-7], FINE, [0, 1]])


class Shapes(unittest.TestCase):
    def shapeless(self, *lines):
        for line in lines:
            self.assertEqual(fault(f"in ok\n{line}\n"), [0, 1, 1], line)

    def fine(self, *lines):
        for line in lines:
            self.assertEqual(fault(f"in ok\n{line}\n"), FINE, line)

    def test_lines_of_no_sort(self):
        self.shapeless("", " ", "inn a", "In a", "out a", "contact ok 0 1", "press ok", "\x00", "\xff")

    def test_lines_with_too_few_or_too_many_parts(self):
        self.shapeless("in", "in a b", "relay", "relay r", "relay r at", "relay r 1", "relay r at 1 2",
                       "lamp", "lamp l", "lamp l at", "lamp l at 1 2", "lamp l at 1 up 2",
                       "open", "open ok", "open ok 1", "open ok 1 2 3", "close ok 1")

    def test_parts_stand_one_blank_apart(self):
        self.shapeless("in  a", " in a", "in a ", "in\ta", "in a\r", "relay r  at 1", "relay r at 1 ", "open ok 1  2")

    def test_other_words_in_their_place(self):
        self.shapeless("relay r on 1", "relay r at 1 Up 2", "lamp l on 1", "relay r at 1 left 2")

    def test_delays_in_their_order_once_each(self):
        self.shapeless("relay r at 1 up", "relay r at 1 down", "relay r at 1 up 2 down", "relay r at 1 down 2 up 3",
                       "relay r at 1 up 2 up 3", "relay r at 1 down 2 down 3", "relay r at 1 up 2 down 3 4")

    def test_names(self):
        self.fine("in a", "in z", "in a0", "in z9z9", "in abcdefghijkl", "in a23456789012")
        self.shapeless("in abcdefghijklm", "in a234567890123", "in 0", "in 0a", "in A", "in aB", "in a_b", "in a-b",
                       "in a?", "in ?", "in \xe9", "in a\xe9", "in {", "in `", "in a/", "in a:", "in " + "a" * 9000)

    def test_names_of_every_sort_of_line(self):
        self.fine("relay abcdefghijkl at 1", "lamp abcdefghijkl at 1")
        self.shapeless("relay abcdefghijklm at 1", "relay 1 at 1", "relay  at 1", "lamp abcdefghijklm at 1",
                       "lamp L at 1", "open abcdefghijklm 0 1", "close Ok 0 1", "open  0 1")

    def test_nodes(self):
        self.fine("relay r at 0", "relay r at 63", "lamp l at 0", "lamp l at 63", "open ok 0 63", "close ok 62 63")
        self.shapeless("relay r at 64", "lamp l at 64", "open ok 0 64", "close ok 64 65", "lamp l at 100",
                       "lamp l at -1", "lamp l at +1", "lamp l at 1.", "lamp l at x", "lamp l at  ", "lamp l at 1_0")

    def test_needless_digits(self):
        self.shapeless("relay r at 00", "relay r at 01", "lamp l at 063", "open ok 00 1", "open ok 0 01",
                       "relay r at 1 up 01", "relay r at 1 down 007", "relay r at 1 up 000001")

    def test_ticks(self):
        self.fine("relay r at 1 up 1", "relay r at 1 up 65535", "relay r at 1 down 65535")
        self.shapeless("relay r at 1 up 0", "relay r at 1 down 0", "relay r at 1 up 65536", "relay r at 1 down 65536",
                       "relay r at 1 up 99999", "relay r at 1 up 100000", "relay r at 1 up 1 down 0",
                       "relay r at 1 up x", "relay r at 1 up -1", "relay r at 1 up ")

    def test_a_number_longer_than_python_reads(self):
        self.shapeless("lamp l at " + "1" * 9000, "relay r at 1 up " + "0" * 9000)

    def test_nodes_of_a_contact(self):
        self.shapeless("open ok 1 1", "close ok 0 0", "open ok 2 1", "close ok 63 0", "open ok 10 9")
        self.fine("open ok 9 10")

    def test_a_text_without_its_last_line_feed(self):
        self.assertEqual(fault("in a"), [0, 1, 0])
        self.assertEqual(fault("in a\nin b"), [0, 1, 1])
        self.assertEqual(fault("in a\n "), [0, 1, 1])
        self.assertEqual(fault("in a\n\n"), [0, 1, 1])
        self.assertEqual(fault("\n"), [0, 1, 0])
        self.assertEqual(fault("in a\nx\nin b"), [0, 1, 1])


class OtherFaults(unittest.TestCase):
    def test_a_line_behind_one_of_a_later_sort(self):
        parts = ["in a\n", "relay r at 1\n", "lamp l at 1\n", "open a 0 1\n"]
        for later in range(4):
            for sooner in range(later):
                text = "in b\n" + parts[later] + parts[sooner]
                self.assertEqual(fault(text), [0, 2, 2], text)

    def test_the_first_line_out_of_order(self):
        self.assertEqual(fault("in a\nlamp l at 1\nrelay r at 1\nin b\n"), [0, 2, 2])
        self.assertEqual(fault("close a 0 1\nin a\nin b\n"), [0, 2, 1])

    def test_one_too_many(self):
        self.assertEqual(fault(names("in", 17)), [0, 3, 16])
        self.assertEqual(fault(names("relay", 13, " at 1")), [0, 3, 12])
        self.assertEqual(fault(names("lamp", 17, " at 1")), [0, 3, 16])
        self.assertEqual(fault("in a\n" + "open a 0 1\n" * 128 + "close a 0 1\n" * 129), [0, 3, 257])

    def test_the_first_line_too_many(self):
        self.assertEqual(fault(names("in", 20) + names("relay", 14, " at 1")), [0, 3, 16])
        self.assertEqual(fault(names("in", 16) + names("relay", 14, " at 1") + names("lamp", 18, " at 1")), [0, 3, 28])

    def test_a_name_given_before(self):
        self.assertEqual(fault("in a\nin a\n"), [0, 4, 1])
        self.assertEqual(fault("in a\nrelay a at 1\n"), [0, 4, 1])
        self.assertEqual(fault("in a\nlamp a at 1\n"), [0, 4, 1])
        self.assertEqual(fault("relay a at 1\nrelay a at 2\n"), [0, 4, 1])
        self.assertEqual(fault("relay a at 1\nlamp b at 1\nlamp a at 2\nlamp b at 2\n"), [0, 4, 2])

    def test_a_contact_of_a_name_that_works_none(self):
        self.assertEqual(fault("open a 0 1\n"), [0, 5, 0])
        self.assertEqual(fault("in a\nrelay r at 1\nopen a 0 1\nclose r 0 1\nclose s 0 1\nclose t 0 1\n"), [0, 5, 4])
        self.assertEqual(fault("lamp l at 1\nopen l 0 1\n"), [0, 5, 1])

    def test_many_contacts_of_one_name_are_no_fault(self):
        self.assertEqual(fault("in a\nopen a 0 1\nopen a 0 1\nclose a 0 1\n"), FINE)


class LeastKindFirst(unittest.TestCase):
    # Each line here brings in one kind of fault more, the greater kind ahead of the lesser one.
    def test_the_least_kind_comes_before_the_first_line(self):
        five = "open zz 0 1\n"
        four = "in a\nin a\n"
        three = names("in", 17)
        self.assertEqual(fault(four + five), [0, 4, 1])
        self.assertEqual(fault(four + three + five), [0, 3, 16])
        self.assertEqual(fault(four + three + five + "lamp l at 1\n"), [0, 2, 20])
        self.assertEqual(fault(four + three + five + "lamp l at 1\nin A\n"), [0, 1, 21])
        self.assertEqual(fault(four + three + five + "lamp l at 1\nin b"), [0, 1, 21])

    def test_three_before_four_in_relays_and_lamps(self):
        self.assertEqual(fault("relay r at 1\n" * 13), [0, 3, 12])
        self.assertEqual(fault("lamp l at 1\n" * 17), [0, 3, 16])
        self.assertEqual(fault("open a 0 1\n" * 257), [0, 3, 256])


class Bounds(unittest.TestCase):
    def test_as_many_bytes_as_there_may_be(self):
        text = "in a\n" * 4000
        self.assertEqual(len(text), 20000)
        self.assertEqual(fault(text), [0, 3, 16])

    def test_a_byte_more(self):
        self.assertEqual(fault("in a\n" * 4000 + "i"), [-1])
        self.assertEqual(fault("x" * 20001), [-1])
        self.assertEqual(fault("x" * 20000), [0, 1, 0])
        self.assertEqual(fault("\n" * 20100), [-1])


class AsItWas(unittest.TestCase):
    def test_a_fault_or_a_refusal_leaves_the_panel_as_it_was(self):
        begin = [load("in a\nrelay r at 0\nrelay s at 0 up 9\nlamp l at 1\nclose a 0 1\n"), press(0, 1), run(3)]
        before = last(*begin, told())
        self.assertEqual(before, [0, 1 + relay(0), 1, 3, 0, 3])
        for text in ("x", "relay r at 0\nin a\n", "in a\n" * 17, "in a\nin a\n", "open a 0 1\n", "x" * 20001):
            self.assertEqual(last(*begin, load(text), told()), before, text[:20])
            self.assertEqual(last(*begin, load(text), run(20)), last(*begin, run(20)), text[:20])

    def test_what_was_done_is_as_it_was_too(self):
        presses = [press(0, (step + 1) % 2) for step in range(200)]
        self.assertEqual(ask(load("in a\n"), *presses, load("x"), press(0, 1))[-2:], [[0, 1, 0], [-7]])

    def test_a_new_panel_has_no_scheme_behind_a_fault(self):
        self.assertEqual(ask(load("x"), told()), [[0, 1, 0], [-3]])
        self.assertEqual(ask(load("x" * 20001), told()), [[-1], [-3]])


if __name__ == "__main__":
    unittest.main()
