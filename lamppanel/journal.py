"""A journal's lines: how a thing done is written, and how a text is read that is to be played."""

from lamppanel.reading import Shapeless, name_of, number_of

PRESS_WORD = "press"
LET_WORD = "let"
RUN_WORD = "run"

MOST_TICKS = 2000


# A thing to be done: press or let and an input's name, or run and how many ticks.
class Thing:
    def __init__(self, word, name, ticks):
        self.word = word
        self.name = name
        self.ticks = ticks


# A text to be played: its scheme's text, its other lines, and which line of the text the first of these is.
class Score:
    def __init__(self, scheme_text, things, first):
        self.scheme_text = scheme_text
        self.things = things
        self.first = first


def thing_line(word, what):
    return f"{word} {what}\n"


def begins_a_thing(line):
    return any([line.startswith(word + " ") for word in (PRESS_WORD, LET_WORD, RUN_WORD)])


def read_score(signs):
    lines = signs.split("\n")
    # What no line's end follows counts for nothing here, other than in a scheme's text that is loaded.
    lines.pop()
    first = 0
    while first < len(lines) and not begins_a_thing(lines[first]):
        first += 1
    return Score("".join([f"{line}\n" for line in lines[:first]]), lines[first:], first)


def read_thing(line):
    parts = line.split(" ")
    if len(parts) == 2 and parts[0] == RUN_WORD:
        return Thing(RUN_WORD, "", number_of(parts[1], 1, MOST_TICKS))
    if len(parts) == 2 and (parts[0] == PRESS_WORD or parts[0] == LET_WORD):
        return Thing(parts[0], name_of(parts[1]), 0)
    raise Shapeless("no such line")
