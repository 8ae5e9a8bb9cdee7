"""Writes calls as numbers and cuts what comes back into one answer a call."""

from lamppanel.panel import answers


def load(text):
    numbers = list(text.encode("latin-1"))
    return [1, len(numbers)] + numbers


def press(place, on):
    return [2, place, on]


def run(n, k=0):
    return [3, n, k]


def told():
    return [4]


def journal():
    return [5]


def play(text):
    numbers = list(text.encode("latin-1"))
    return [6, len(numbers)] + numbers


def back():
    return [7]


def ask(*calls):
    numbers = answers([number for call in calls for number in call])
    cut = []
    place = 0
    while place < len(numbers):
        behind = place + 1 + numbers[place]
        cut.append(numbers[place + 1:behind])
        place = behind
    assert place == len(numbers) and len(cut) == len(calls)
    return cut


def last(*calls):
    return ask(*calls)[-1]


def written(answer):
    """The text that a journal's answer holds."""
    assert answer[0] == 0
    return bytes(answer[1:]).decode("latin-1")


def relay(place):
    return 2 ** (16 + place)
