"""A panel, and the calls on it."""

from lamppanel.clock import new_clock, tick, with_input_turned
from lamppanel.reading import Fault, read_scheme
from lamppanel.scheme import drawn_in

LOAD = 1
PRESS = 2
RUN = 3
TOLD = 4

OUT_OF_BOUNDS = -1
NO_SCHEME = -3
NO_SUCH_INPUT = -4
FULL = -7

MOST_SCHEME_BYTES = 20000
MOST_TICKS = 2000
MOST_DONE = 200


# A call's number is none of those above.
class UnknownCall(ValueError):
    pass


# What was done is kept in order, as pairs: press or let and the input's number, or run and the ticks.
class Panel:
    def __init__(self):
        self.scheme = None
        self.clock = None
        self.done = []

    def load(self, text):
        if len(text) > MOST_SCHEME_BYTES:
            return [OUT_OF_BOUNDS]
        try:
            scheme = read_scheme(text)
        except Fault as fault:
            return [0, fault.kind, fault.line]
        self.scheme = scheme
        self.clock = new_clock(scheme)
        self.done = []
        return [0, 0, 0]

    def press(self, place, on):
        if self.scheme is None:
            return [NO_SCHEME]
        if not 0 <= on <= 1:
            return [OUT_OF_BOUNDS]
        if not 0 <= place < len(self.scheme.inputs):
            return [NO_SUCH_INPUT]
        if (self.clock.state >> place) & 1 == on:
            return [0, 0]
        if len(self.done) >= MOST_DONE:
            return [FULL]
        self.clock = with_input_turned(self.clock, place)
        self.done.append(("press" if on == 1 else "let", place))
        return [0, 1]

    def run(self, most, stop):
        if self.scheme is None:
            return [NO_SCHEME]
        if not 0 <= most <= MOST_TICKS or not 0 <= stop <= MOST_TICKS:
            return [OUT_OF_BOUNDS]
        if most > 0 and len(self.done) >= MOST_DONE:
            return [FULL]
        return self.pass_ticks(most, stop)

    def pass_ticks(self, most, stop):
        passed = 0
        turns = 0
        ended = 0
        seen = []
        while passed < most and ended == 0:
            before = self.clock.state
            self.clock = tick(self.scheme, self.clock)
            passed += 1
            turned = before ^ self.clock.state
            if turned != 0:
                turns += count_ones(turned)
                seen.extend([turned, self.lamps_drawn()])
                # Two numbers are seen of each such tick, so a stop of 0 is never met here.
                ended = 1 if len(seen) == 2 * stop else 0
        if passed > 0:
            self.done.append(("run", passed))
        return [0, passed, turns, ended] + seen

    def told(self):
        if self.scheme is None:
            return [NO_SCHEME]
        return [0, self.clock.state, self.lamps_drawn(), self.clock.ticks] + self.clock.waits

    def lamps_drawn(self):
        return drawn_in(self.scheme, self.clock.state).lamps


def count_ones(bits):
    ones = 0
    while bits != 0:
        # Takes the lowest one away, so that there is a step for each one and none for the noughts.
        bits &= bits - 1
        ones += 1
    return ones


# How many numbers the call that begins at the place has, its own number among them.
def call_length(calls, place):
    number = calls[place]
    if number == LOAD:
        return 2 + calls[place + 1]
    if number == PRESS or number == RUN:
        return 3
    if number == TOLD:
        return 1
    raise UnknownCall(f"no call has the number {number}")


def answer(panel, call):
    if call[0] == LOAD:
        return panel.load(call[2:])
    if call[0] == PRESS:
        return panel.press(call[1], call[2])
    if call[0] == RUN:
        return panel.run(call[1], call[2])
    return panel.told()


# The answers to the calls on one new panel, each behind how many numbers it has.
def answers(calls):
    panel = Panel()
    given = []
    place = 0
    while place < len(calls):
        length = call_length(calls, place)
        numbers = answer(panel, calls[place:place + length])
        given.append(len(numbers))
        given.extend(numbers)
        place += length
    return given
