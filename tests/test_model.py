"""Holds the program against a slow second telling of the document, on many made-up lists of calls."""

import random
import re
import unittest

from calling import back, journal, load, play, press, run, told
from lamppanel.panel import answers

NAME = "([a-z][a-z0-9]{0,11})"
NODE = "(0|[1-9]|[1-5][0-9]|6[0-3])"
TICKS = "([1-9][0-9]*)"
SHAPES = [
    re.compile(f"in {NAME}"),
    re.compile(f"relay {NAME} at {NODE}(?: up {TICKS})?(?: down {TICKS})?"),
    re.compile(f"lamp {NAME} at {NODE}"),
    re.compile(f"(?:open|close) {NAME} {NODE} {NODE}"),
]


def shape_of(line):
    for rank, shape in enumerate(SHAPES):
        found = shape.fullmatch(line)
        if found is None:
            continue
        parts = found.groups()
        if rank == 1 and any(len(part or "") > 5 or int(part or 0) > 65535 for part in parts[2:]):
            return None
        if rank == 3 and int(parts[1]) >= int(parts[2]):
            return None
        return rank, parts, line
    return None


def faults(text):
    """All faults of a text, as far as they can be told."""
    lines = text.split("\n")
    rows = [shape_of(line) for line in lines[:-1]]
    found = [(1, place) for place, row in enumerate(rows) if row is None]
    if lines[-1]:
        found.append((1, len(rows)))
    if found:
        return rows, found
    for place, (rank, parts, line) in enumerate(rows):
        before = rows[:place]
        if any(other[0] > rank for other in before):
            found.append((2, place))
        if sum(other[0] == rank for other in before) >= (16, 12, 16, 256)[rank]:
            found.append((3, place))
        if rank < 3 and any(other[0] < 3 and other[1][0] == parts[0] for other in before):
            found.append((4, place))
        if rank == 3 and not any(other[0] < 2 and other[1][0] == parts[0] for other in rows):
            found.append((5, place))
    return rows, found


class Model:
    def __init__(self):
        self.rows = None

    def load(self, text):
        return [-1] if len(text) > 20000 else self.begin(text)

    def begin(self, text):
        rows, found = faults(text)
        if found:
            return [0] + list(min(found))
        self.rows = rows
        self.inputs = [row[1][0] for row in rows if row[0] == 0]
        self.relays = [row[1] for row in rows if row[0] == 1]
        self.lamps = [row[1] for row in rows if row[0] == 2]
        self.on = set()
        self.waited = {name: 0 for name, *rest in self.relays}
        self.ticks = 0
        self.text = text
        self.done = []
        return [0, 0, 0]

    def live(self):
        nodes = {"0"}
        while True:
            more = set(nodes)
            for rank, parts, line in self.rows:
                if rank == 3 and (parts[0] in self.on) == line.startswith("close"):
                    if parts[1] in more or parts[2] in more:
                        more |= {parts[1], parts[2]}
            if more == nodes:
                return nodes
            nodes = more

    def lit(self):
        live = self.live()
        return sum(2 ** place for place, (name, node) in enumerate(self.lamps) if node in live)

    def press(self, place, on):
        if self.rows is None:
            return [-3]
        if on not in (0, 1):
            return [-1]
        if place not in range(len(self.inputs)):
            return [-4]
        name = self.inputs[place]
        if (name in self.on) == (on == 1):
            return [0, 0]
        if len(self.done) == 200:
            return [-7]
        self.on ^= {name}
        self.done.append(("let ", "press ")[on] + name)
        return [0, 1]

    def tick(self):
        live = self.live()
        turning = set()
        for name, node, up, down in self.relays:
            on = name in self.on
            if on == (node in live):
                self.waited[name] = 0
            elif self.waited[name] >= int((down if on else up) or 0):
                self.waited[name] = 0
                turning.add(name)
            else:
                self.waited[name] += 1
        self.on ^= turning
        self.ticks += 1
        return turning

    def run(self, n, k):
        if self.rows is None:
            return [-3]
        if n not in range(2001) or k not in range(2001):
            return [-1]
        if n and len(self.done) == 200:
            return [-7]
        turned = []
        tail = []
        passed = 0
        while passed < n and not (k and len(turned) == k):
            passed += 1
            turning = self.tick()
            if turning:
                turned.append(len(turning))
                tail.append(sum(2 ** (16 + at) for at, row in enumerate(self.relays) if row[0] in turning))
                tail.append(self.lit())
        self.done += [f"run {passed}"] if passed else []
        return [0, passed, sum(turned), int(k > 0 and len(turned) == k)] + tail

    def told(self):
        if self.rows is None:
            return [-3]
        state = sum(2 ** place for place, name in enumerate(self.inputs) if name in self.on)
        state += sum(2 ** (16 + place) for place, row in enumerate(self.relays) if row[0] in self.on)
        return [0, state, self.lit(), self.ticks] + list(self.waited.values())

    def written(self):
        return self.text + "".join(line + "\n" for line in self.done)

    def journal(self):
        return [-3] if self.rows is None else [0] + list(self.written().encode("ascii"))

    def why_not(self, line):
        found = re.fullmatch(f"(press|let) {NAME}|run {TICKS}", line)
        if found is None or found[3] and (len(found[3]) > 4 or int(found[3]) > 2000):
            return 6
        if found[2] and found[2] not in self.inputs:
            return 7
        if found[2] and (found[2] in self.on) == (found[1] == "press"):
            return 8
        if len(self.done) == 200:
            return 9
        if found[2]:
            self.press(self.inputs.index(found[2]), int(found[1] == "press"))
        else:
            self.run(int(found[3]), 0)
        return 0

    def play(self, text):
        if len(text) > 40000:
            return [-1]
        lines = text.split("\n")[:-1]
        things = [place for place, line in enumerate(lines) if re.match("(press|let|run) ", line)]
        first = min(things + [len(lines)])
        other = Model()
        got = other.begin("".join(line + "\n" for line in lines[:first]))
        if got != [0, 0, 0]:
            return got + [0]
        for place in range(first, len(lines)):
            why = other.why_not(lines[place])
            if why:
                return [0, why, place, 0]
        self.__dict__ = other.__dict__
        return [0, 0, 0, len(lines) - first]

    def back(self):
        if self.rows is None:
            return [-3]
        if not self.done:
            return [-5]
        # A panel is what its journal leads to.
        self.done.pop()
        self.play(self.written())
        return [0]


def some_delay(dice, word):
    return f" {word} {dice.choice([1, 2, 3, 5, 9])}" if dice.random() < 0.5 else ""


def some_scheme(dice):
    inputs = [f"i{place}" for place in range(dice.randint(0, 4))]
    relays = [f"r{place}" for place in range(dice.randint(0, 6))]
    most = dice.choice([2, 4, 8, 63])
    lines = [f"in {name}" for name in inputs]
    lines += [f"relay {name} at {dice.randint(0, most)}{some_delay(dice, 'up')}{some_delay(dice, 'down')}"
              for name in relays]
    lines += [f"lamp l{place} at {dice.randint(0, most)}" for place in range(dice.randint(0, 4))]
    if inputs + relays:
        for place in range(dice.randint(0, 3 * most)):
            low, high = sorted(dice.sample(range(most + 1), 2))
            lines.append(f"{dice.choice(['open', 'close'])} {dice.choice(inputs + relays)} {low} {high}")
    return lines


def spoil(dice, lines):
    lines = list(lines)
    for step in range(dice.choice([0, 0, 1, 2])):
        way = dice.randint(0, 3)
        if way == 0 and len(lines) > 1:
            one, other = dice.sample(range(len(lines)), 2)
            lines[one], lines[other] = lines[other], lines[one]
        elif way == 1 and lines:
            lines.insert(dice.randint(0, len(lines)), dice.choice(lines))
        elif way == 2 and lines:
            place = dice.randrange(len(lines))
            signs = list(lines[place])
            signs[dice.randrange(len(signs))] = dice.choice("ab019 \n-Z\xff")
            lines[place] = "".join(signs)
        elif way == 3:
            start, end = dice.choice([("in x", ""), ("relay y", " at 1"), ("lamp z", " at 1")])
            more = [f"{start}{place}{end}" for place in range(18)]
            lines = more + lines if dice.random() < 0.5 else lines + more
    return "".join(line + "\n" for line in lines)


def some_things(dice):
    names = ["i0", "i1", "i2", "i3", "r0", "l0", "zz", "Z"]
    lines = []
    for step in range(dice.choice([0, 1, 3, 9])):
        if dice.random() < 0.5:
            lines.append(f"{dice.choice(['press', 'let'])} {dice.choices(names, [40, 40, 20, 20, 1, 1, 1, 1])[0]}")
        else:
            lines.append(f"run {dice.choices([1, 2, 7, 30, 0, '02', 2001, ''], [20, 20, 20, 20, 1, 1, 1, 1])[0]}")
    return lines


def some_text(dice, model):
    """A text to be played: often the journal that stands, with more behind it, or with lines of it spoilt."""
    if model.rows is not None and dice.random() < 0.6:
        lines = model.written().split("\n")[:-1]
    else:
        lines = some_scheme(dice)
    lines += some_things(dice)
    text = spoil(dice, lines) if dice.random() < 0.5 else "".join(line + "\n" for line in lines)
    return text + dice.choice(["", "", "run 3", "x"])


def some_call(dice, model):
    """A call's name and its arguments."""
    way = dice.random()
    if way < 0.1:
        return "load", spoil(dice, some_scheme(dice))
    if way < 0.35:
        return "press", dice.randint(-1, 4), dice.choice([-1, 0, 0, 0, 1, 1, 1, 1, 2])
    if way < 0.6:
        return "run", dice.choice([0, 1, 2, 5, 17, 40, 2001]), dice.choice([0, 0, 0, 1, 2, 7, -1])
    if way < 0.7:
        return "play", some_text(dice, model)
    return (dice.choice(["told", "told", "journal", "back", "back"]),)


WRITERS = {"load": load, "press": press, "run": run, "told": told, "journal": journal, "play": play, "back": back}


class AgainstTheModel(unittest.TestCase):
    def go(self, dice, calls_before, steps):
        model = Model()
        calls = []
        wanted = []
        for step in range(len(calls_before) + steps):
            call = calls_before[step] if step < len(calls_before) else some_call(dice, model)
            calls.append(call)
            wanted.append(getattr(model, call[0])(*call[1:]))
        got = answers([number for call in calls for number in WRITERS[call[0]](*call[1:])])
        self.assertEqual(got, [number for one in wanted for number in [len(one)] + one], calls)
        return [(call[0], one) for call, one in zip(calls, wanted)]

    def test_made_up_calls(self):
        dice = random.Random(20)
        met = set()
        for turn in range(1500):
            begin = [("load", spoil(dice, some_scheme(dice)))] if dice.random() < 0.9 else []
            for name, one in self.go(dice, begin, dice.randint(1, 25)):
                met.add((name, one[0] if len(one) == 1 else one[1]) if name in ("load", "play", "back") else name)
        # The calls are worth nothing if they never come to what they are to come to.
        self.assertLessEqual({("play", kind) for kind in (0, 1, 2, 3, 4, 5, 6, 7, 8)}, met)
        self.assertLessEqual({("back", 0), ("back", -3), ("back", -5)}, met)

    def test_made_up_calls_about_two_hundred_things(self):
        dice = random.Random(21)
        kinds = set()
        for turn in range(60):
            scheme = "in i0\nin i1\nrelay r0 at 1 up 1\nrelay r1 at 2\nlamp l0 at 2\nopen r0 0 1\nclose i0 1 2\n"
            things = "press i0\nrun 1\nlet i0\nrun 2\n" * 49 + "run 1\n" * dice.randint(0, 4)
            for name, one in self.go(dice, [("play", scheme + things)], 30):
                kinds.add((name, one[0] if len(one) == 1 else one[1]))
        self.assertIn(("play", 9), kinds)
        self.assertIn(("press", -7), kinds)
        self.assertIn(("run", -7), kinds)


if __name__ == "__main__":
    unittest.main()
