"""A panel, and the calls on it."""

from lamppanel.clock import new_clock, pass_quietly, quiet_ticks, tick, with_input_turned
from lamppanel.journal import LET_WORD, MOST_TICKS, PRESS_WORD, RUN_WORD, read_score, read_thing, thing_line
from lamppanel.reading import Fault, Shapeless, read_scheme, signs_of
from lamppanel.scheme import drawn_in

LOAD = 1
PRESS = 2
RUN = 3
TOLD = 4
JOURNAL = 5
PLAY = 6
BACK = 7

OUT_OF_BOUNDS = -1
NO_SCHEME = -3
NO_SUCH_INPUT = -4
NOTHING_DONE = -5
FULL = -7

MOST_SCHEME_BYTES = 20000
MOST_JOURNAL_BYTES = 40000
MOST_DONE = 200

NO_FAULT = 0
NO_THING = 6
NO_INPUT_OF_THAT_NAME = 7
SO_ALREADY = 8
TOO_MANY_THINGS = 9


# A call's number is none of those above.
class UnknownCall(ValueError):
    pass


# A thing that was done: its line in the journal, and the clock as it was before it.
class Deed:
    def __init__(self, line, before):
        self.line = line
        self.before = before


class Panel:
    def __init__(self):
        self.scheme = None
        self.scheme_text = ""
        self.clock = None
        self.done = []

    # Raises the text's first fault, and is then as it was.
    def begin(self, signs):
        self.scheme = read_scheme(signs)
        self.scheme_text = signs
        self.clock = new_clock(self.scheme)
        self.done = []

    def become(self, other):
        self.scheme = other.scheme
        self.scheme_text = other.scheme_text
        self.clock = other.clock
        self.done = other.done

    def load(self, text):
        if len(text) > MOST_SCHEME_BYTES:
            return [OUT_OF_BOUNDS]
        try:
            self.begin(signs_of(text))
        except Fault as fault:
            return [0, fault.kind, fault.line]
        return [0, NO_FAULT, 0]

    def press(self, place, on):
        if self.scheme is None:
            return [NO_SCHEME]
        if not 0 <= on <= 1:
            return [OUT_OF_BOUNDS]
        if not 0 <= place < len(self.scheme.inputs):
            return [NO_SUCH_INPUT]
        if (self.clock.state >> place) & 1 == on:
            return [0, 0]
        if len(self.done) >= MOST_DONE:
            return [FULL]
        line = thing_line(PRESS_WORD if on == 1 else LET_WORD, self.scheme.inputs[place])
        self.done.append(Deed(line, self.clock))
        self.clock = with_input_turned(self.clock, place)
        return [0, 1]

    def run(self, most, stop):
        if self.scheme is None:
            return [NO_SCHEME]
        if not 0 <= most <= MOST_TICKS or not 0 <= stop <= MOST_TICKS:
            return [OUT_OF_BOUNDS]
        if most > 0 and len(self.done) >= MOST_DONE:
            return [FULL]
        before = self.clock
        outcome = self.pass_ticks(most, stop)
        if outcome[0] > 0:
            self.done.append(Deed(thing_line(RUN_WORD, outcome[0]), before))
        return [0] + outcome

    # Gives back how many ticks passed, and what else a run tells.
    def pass_ticks(self, most, stop):
        passed = 0
        turns = 0
        ended = 0
        seen = []
        while passed < most and ended == 0:
            before = self.clock.state
            self.clock = tick(self.scheme, self.clock)
            passed += 1
            turned = before ^ self.clock.state
            if turned == 0:
                quiet = quiet_ticks(self.scheme, self.clock, most - passed)
                self.clock = pass_quietly(self.clock, quiet)
                passed += quiet
            else:
                turns += count_ones(turned)
                seen.extend([turned, self.lamps_drawn()])
                # Two numbers are seen of each such tick, so a stop of 0 is never met here.
                ended = 1 if len(seen) == 2 * stop else 0
        return [passed, turns, ended] + seen

    def told(self):
        if self.scheme is None:
            return [NO_SCHEME]
        return [0, self.clock.state, self.lamps_drawn(), self.clock.ticks] + self.clock.waits

    def lamps_drawn(self):
        return drawn_in(self.scheme, self.clock.state).lamps

    def journal(self):
        if self.scheme is None:
            return [NO_SCHEME]
        signs = self.scheme_text + "".join([deed.line for deed in self.done])
        return [0] + [ord(sign) for sign in signs]

    def play(self, text):
        if len(text) > MOST_JOURNAL_BYTES:
            return [OUT_OF_BOUNDS]
        try:
            played = played_panel(signs_of(text))
        except Fault as fault:
            return [0, fault.kind, fault.line, 0]
        self.become(played)
        return [0, NO_FAULT, 0, len(self.done)]

    def back(self):
        if self.scheme is None:
            return [NO_SCHEME]
        if len(self.done) == 0:
            return [NOTHING_DONE]
        deed = self.done.pop()
        self.clock = deed.before
        return [0]


# Does what a line of a text that is played says, or gives back why it can't be done.
def follow(panel, line):
    try:
        thing = read_thing(line)
    except Shapeless:
        return NO_THING
    if thing.word == RUN_WORD:
        given = panel.run(thing.ticks, 0)
    elif thing.name in panel.scheme.inputs:
        given = panel.press(panel.scheme.inputs.index(thing.name), 1 if thing.word == PRESS_WORD else 0)
    else:
        return NO_INPUT_OF_THAT_NAME
    if given == [FULL]:
        return TOO_MANY_THINGS
    return SO_ALREADY if given == [0, 0] else NO_FAULT


# The panel that a text leads to; raises the text's first fault if there is one.
def played_panel(signs):
    score = read_score(signs)
    panel = Panel()
    panel.begin(score.scheme_text)
    for place, line in enumerate(score.things, start=score.first):
        kind = follow(panel, line)
        if kind != NO_FAULT:
            raise Fault(kind, place)
    return panel


def count_ones(bits):
    ones = 0
    while bits != 0:
        # Takes the lowest one away, so that there is a step for each one and none for the noughts.
        bits &= bits - 1
        ones += 1
    return ones


# How many numbers the call that begins at the place has, its own number among them.
def call_length(calls, place):
    number = calls[place]
    if number == LOAD or number == PLAY:
        return 2 + calls[place + 1]
    if number == PRESS or number == RUN:
        return 3
    if number == TOLD or number == JOURNAL or number == BACK:
        return 1
    raise UnknownCall(f"no call has the number {number}")


def answer(panel, call):
    if call[0] == LOAD:
        return panel.load(call[2:])
    if call[0] == PRESS:
        return panel.press(call[1], call[2])
    if call[0] == RUN:
        return panel.run(call[1], call[2])
    if call[0] == TOLD:
        return panel.told()
    if call[0] == JOURNAL:
        return panel.journal()
    if call[0] == PLAY:
        return panel.play(call[2:])
    return panel.back()


# The answers to the calls on one new panel, each behind how many numbers it has.
def answers(calls):
    panel = Panel()
    given = []
    place = 0
    while place < len(calls):
        length = call_length(calls, place)
        numbers = answer(panel, calls[place:place + length])
        given.append(len(numbers))
        given.extend(numbers)
        place += length
    return given
