"""Reads a scheme's text, or tells its first fault."""

from lamppanel.scheme import Contact, Relay, Scheme, relay_variable

LETTERS = "abcdefghijklmnopqrstuvwxyz"
DIGITS = "0123456789"
NO_SIGN = "?"

MOST_NAME_SIGNS = 12
MOST_NODE = 63
MOST_DELAY = 65535
MOST_DIGITS = 5

IN_RANK = 0
RELAY_RANK = 1
LAMP_RANK = 2
CONTACT_RANK = 3
MOST_OF_RANK = (16, 12, 16, 256)

NO_SHAPE = 1
OUT_OF_ORDER = 2
TOO_MANY = 3
NAME_TAKEN = 4
NAME_UNKNOWN = 5


# The first fault of a text.
class Fault(ValueError):
    def __init__(self, kind, line):
        self.kind = kind
        self.line = line


# A line, or a part of it, is of no shape.
class Shapeless(ValueError):
    pass


# What a line tells. The numbers of an input are none, of a relay its node, its delay up and its delay down,
# of a lamp its node, of a contact its two nodes and 1 if it is a closer, 0 if it is an opener.
class Row:
    def __init__(self, rank, name, numbers):
        self.rank = rank
        self.name = name
        self.numbers = numbers


# The text that bytes make up.
def signs_of(text):
    known = {}
    for sign in LETTERS + DIGITS + " \n":
        known[ord(sign)] = sign
    # A byte that no shape holds becomes a sign that no shape holds.
    return "".join([known.get(byte, NO_SIGN) for byte in text])


def name_of(part):
    if not 1 <= len(part) <= MOST_NAME_SIGNS or part[0] not in LETTERS:
        raise Shapeless("no name")
    if not all([sign in LETTERS or sign in DIGITS for sign in part]):
        raise Shapeless("no name")
    return part


def number_of(part, least, most):
    # The length is asked first: Python turns no text of some thousand digits into a number.
    if not 1 <= len(part) <= MOST_DIGITS or not all([sign in DIGITS for sign in part]):
        raise Shapeless("no number")
    number = int(part)
    if str(number) != part or not least <= number <= most:
        raise Shapeless("no such number")
    return number


def node_of(part):
    return number_of(part, 0, MOST_NODE)


def expect(condition):
    if not condition:
        raise Shapeless("no such line")


def read_in(parts):
    expect(len(parts) == 2)
    return Row(IN_RANK, name_of(parts[1]), ())


def read_relay(parts):
    expect(len(parts) >= 4 and parts[2] == "at")
    delays = []
    rest = parts[4:]
    for word in ("up", "down"):
        if len(rest) >= 2 and rest[0] == word:
            delays.append(number_of(rest[1], 1, MOST_DELAY))
            rest = rest[2:]
        else:
            delays.append(0)
    expect(len(rest) == 0)
    return Row(RELAY_RANK, name_of(parts[1]), (node_of(parts[3]), delays[0], delays[1]))


def read_lamp(parts):
    expect(len(parts) == 4 and parts[2] == "at")
    return Row(LAMP_RANK, name_of(parts[1]), (node_of(parts[3]),))


def read_contact(parts, through):
    expect(len(parts) == 4)
    low = node_of(parts[2])
    high = node_of(parts[3])
    expect(low < high)
    return Row(CONTACT_RANK, name_of(parts[1]), (low, high, through))


def read_row(line):
    parts = line.split(" ")
    if parts[0] == "in":
        return read_in(parts)
    if parts[0] == "relay":
        return read_relay(parts)
    if parts[0] == "lamp":
        return read_lamp(parts)
    if parts[0] == "open":
        return read_contact(parts, 0)
    if parts[0] == "close":
        return read_contact(parts, 1)
    raise Shapeless("no such line")


def read_rows(signs):
    lines = signs.split("\n")
    unended = lines.pop()
    rows = []
    for place, line in enumerate(lines):
        try:
            row = read_row(line)
        except Shapeless:
            raise Fault(NO_SHAPE, place) from None
        rows.append(row)
    if unended != "":
        raise Fault(NO_SHAPE, len(lines))
    return rows


def check_order(rows):
    latest = IN_RANK
    for place, row in enumerate(rows):
        if row.rank < latest:
            raise Fault(OUT_OF_ORDER, place)
        latest = row.rank


def check_counts(rows):
    counts = [0] * len(MOST_OF_RANK)
    for place, row in enumerate(rows):
        counts[row.rank] += 1
        if counts[row.rank] > MOST_OF_RANK[row.rank]:
            raise Fault(TOO_MANY, place)


def check_names(rows):
    given = {}
    for place, row in enumerate(rows):
        if row.rank != CONTACT_RANK:
            if row.name in given:
                raise Fault(NAME_TAKEN, place)
            given[row.name] = True


def add_contact(scheme, variables, row):
    scheme.contacts.append(Contact(row.numbers[0], row.numbers[1], variables[row.name], row.numbers[2]))


# The scheme of rows whose order, counts and given names are without a fault.
def build(rows):
    scheme = Scheme()
    variables = {}
    for place, row in enumerate(rows):
        if row.rank == IN_RANK:
            variables[row.name] = len(scheme.inputs)
            scheme.inputs.append(row.name)
        elif row.rank == RELAY_RANK:
            variable = relay_variable(len(scheme.relays))
            variables[row.name] = variable
            scheme.relays.append(Relay(1 << variable, row.numbers[0], row.numbers[1], row.numbers[2]))
        elif row.rank == LAMP_RANK:
            scheme.lamps.append(row.numbers[0])
        elif row.name in variables:
            add_contact(scheme, variables, row)
        else:
            raise Fault(NAME_UNKNOWN, place)
    return scheme


# The scheme of a text's signs; raises the text's first fault if it is no scheme's.
def read_scheme(signs):
    rows = read_rows(signs)
    # One kind of fault behind another, as the least kind is told even where its line comes later.
    check_order(rows)
    check_counts(rows)
    check_names(rows)
    return build(rows)
