"""Calls as lists of numbers, and the answers taken apart again. Answers are lists, one for each call."""

from beaconcoasts.chart import answers

WHITE_ALL_ROUND = (1, 0, 1)


def light(x=0, y=0, reach=100, text="W5", sectors=WHITE_ALL_ROUND):
    data = list(text.encode("latin-1")) if isinstance(text, str) else list(text)
    return [0, x, y, reach, len(data), *data, len(sectors), *sectors]


def coast(x, y, u, v):
    return [1, x, y, u, v]


def seen(x, y):
    return [2, x, y]


def at(time, x, y):
    return [3, time, x, y]


def rhythm(number, x, y):
    return [4, number, x, y]


def joined(calls):
    return [number for call in calls for number in call]


def parted(told):
    """What answers() gave back, as one list for each call."""
    parts = []
    start = 0
    while start < len(told):
        end = start + 1 + told[start]
        parts.append(told[start + 1:end])
        start = end
    return parts


def run(*calls):
    return parted(answers(joined(calls)))


def last(*calls):
    return run(*calls)[-1]


def told_text(text):
    """What rhythm answers if that's the text."""
    return [len(text), *text.encode("latin-1")]
