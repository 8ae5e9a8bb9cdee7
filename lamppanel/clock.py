"""A clock of a scheme, and its tick."""

from lamppanel.scheme import drawn_in


# A clock is never changed: what moves it makes another one, so that two clocks may share their waits.
class Clock:
    def __init__(self, state, ticks, waits):
        self.state = state
        self.ticks = ticks
        self.waits = waits


def new_clock(scheme):
    return Clock(0, 0, [0] * len(scheme.relays))


def with_input_turned(clock, place):
    return Clock(clock.state ^ (1 << place), clock.ticks, clock.waits)


# How long a relay waits before it turns from where it is in the state.
def delay_in(relay, state):
    return relay.up if state & relay.bit == 0 else relay.down


# The clock behind one tick.
def tick(scheme, clock):
    state = clock.state
    differing = state ^ drawn_in(scheme, state).relays
    turning = 0
    later = []
    for relay, waited in zip(scheme.relays, clock.waits):
        if differing & relay.bit == 0:
            later.append(0)
        elif waited >= delay_in(relay, state):
            turning |= relay.bit
            later.append(0)
        else:
            later.append(waited + 1)
    return Clock(state ^ turning, (clock.ticks + 1) % 2 ** 64, later)


# How many ticks, at most so many, pass now before one at which a relay turns. It is asked only behind a tick at which
# none turned: there just those that are unsettled have waited, and they wait on.
def quiet_ticks(scheme, clock, most):
    left = [delay_in(relay, clock.state) - waited for relay, waited in zip(scheme.relays, clock.waits) if waited > 0]
    return min(left + [most])


# The clock behind so many quiet ticks, all at once, as no tick of them looks at anything new.
def pass_quietly(clock, count):
    waits = [waited + count if waited > 0 else 0 for waited in clock.waits]
    return Clock(clock.state, (clock.ticks + count) % 2 ** 64, waits)
