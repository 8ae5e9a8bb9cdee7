"""A clock of a scheme, and its tick."""

from lamppanel.scheme import drawn_in, relay_variable


# A clock is never changed: what moves it makes another one, so that two clocks may share their waits.
class Clock:
    def __init__(self, state, ticks, waits):
        self.state = state
        self.ticks = ticks
        self.waits = waits


def new_clock(scheme):
    return Clock(0, 0, [0] * len(scheme.relays))


def with_input_turned(clock, place):
    return Clock(clock.state ^ (1 << place), clock.ticks, clock.waits)


# The clock behind one tick.
def tick(scheme, clock):
    differing = clock.state ^ drawn_in(scheme, clock.state).relays
    turning = 0
    waits = []
    for place, relay in enumerate(scheme.relays):
        bit = 1 << relay_variable(place)
        delay = relay.up if (clock.state & bit) == 0 else relay.down
        waited = clock.waits[place]
        if (differing & bit) == 0:
            waits.append(0)
        elif waited >= delay:
            turning |= bit
            waits.append(0)
        else:
            waits.append(waited + 1)
    return Clock(clock.state ^ turning, (clock.ticks + 1) % 2 ** 64, waits)
