"""A scheme, and what draws in one of its states."""

NODES = 64
RAIL = 0
FIRST_RELAY = 16


# A relay's bit is that of its variable in a state.
class Relay:
    def __init__(self, bit, node, up, down):
        self.bit = bit
        self.node = node
        self.up = up
        self.down = down


# A contact lets through while its variable's bit is the same as `through`: 1 for a closer, 0 for an opener.
class Contact:
    def __init__(self, low, high, variable, through):
        self.low = low
        self.high = high
        self.variable = variable
        self.through = through


# The relays that draw, as bits of a state, and the lamps that draw, as bits.
class Drawn:
    def __init__(self, relays, lamps):
        self.relays = relays
        self.lamps = lamps


# Inputs are kept as their names, lamps as their nodes.
class Scheme:
    def __init__(self):
        self.inputs = []
        self.relays = []
        self.lamps = []
        self.contacts = []
        self.looked_at = {}


def relay_variable(place):
    return FIRST_RELAY + place


def lets_through(contact, state):
    return ((state >> contact.variable) & 1) == contact.through


# For each node the nodes that lie next to it by a contact that lets through.
def neighbours(scheme, state):
    beside = [[] for node in range(NODES)]
    for contact in scheme.contacts:
        if lets_through(contact, state):
            beside[contact.low].append(contact.high)
            beside[contact.high].append(contact.low)
    return beside


# For each node whether it is live.
def live_nodes(scheme, state):
    beside = neighbours(scheme, state)
    live = [False] * NODES
    live[RAIL] = True
    reached = [RAIL]
    while len(reached) > 0:
        node = reached.pop()
        for other in beside[node]:
            if not live[other]:
                live[other] = True
                reached.append(other)
    return live


def look_at(scheme, state):
    live = live_nodes(scheme, state)
    relays = 0
    for relay in scheme.relays:
        if live[relay.node]:
            relays |= relay.bit
    lamps = 0
    for place, node in enumerate(scheme.lamps):
        if live[node]:
            lamps |= 1 << place
    return Drawn(relays, lamps)


def drawn_in(scheme, state):
    # What draws hangs on the state alone, and a long run comes to few states many times.
    if state not in scheme.looked_at:
        scheme.looked_at[state] = look_at(scheme, state)
    return scheme.looked_at[state]
