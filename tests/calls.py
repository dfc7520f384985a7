"""Calls as lists of numbers, and the answers taken apart again. Answers are lists, one for each call."""

from beaconcoasts.chart import answers

WHITE_ALL_ROUND = (1, 0, 1)
# what where and tell refuse with -1, whatever lights there are
WRONG_FIELDS = [(3, 3, 2, 3), (3, 3, 3, 2), (3, 3, 2, 2), (0, 0, 1024, 0), (0, 0, 0, 1024), (0, 0, 32, 31),
                (0, 0, 24, 40), (10000, 0, 10001, 0), (0, -10001, 0, -10000), (-10000, -10000, 10000, 10000)]
WRONG_TOLD = [(0,), (0, 1, 0), (0, 1) * 25, (0, 5), (0, 1, 0, 5), (0, 1) * 24 + (0,)]


def light(x=0, y=0, reach=100, text="W5", sectors=WHITE_ALL_ROUND):
    data = list(text.encode("latin-1")) if isinstance(text, str) else list(text)
    return [0, x, y, reach, len(data), *data, len(sectors), *sectors]


def coast(x, y, u, v):
    return [1, x, y, u, v]


def seen(x, y):
    return [2, x, y]


def at(time, x, y):
    return [3, time, x, y]


def rhythm(number, x, y):
    return [4, number, x, y]


def where(x, y, u, v, told=()):
    return [5, x, y, u, v, len(told), *told]


def track(x, y, u, v, n):
    return [6, x, y, u, v, n]


def tell(x, y, u, v, told=()):
    return [7, x, y, u, v, len(told), *told]


def clear():
    return [8]


def joined(calls):
    return [number for call in calls for number in call]


def parted(told):
    """What answers() gave back, as one list for each call."""
    parts = []
    start = 0
    while start < len(told):
        end = start + 1 + told[start]
        parts.append(told[start + 1:end])
        start = end
    return parts


def run(*calls):
    return parted(answers(joined(calls)))


def last(*calls):
    return run(*calls)[-1]


def colours_seen(setup, places, lights):
    """Of each place the colours of so many lights there, as the call seen tells them."""
    told = []
    for start in range(0, len(places), 300):
        for answer in run(*setup, *[seen(*place) for place in places[start:start + 300]])[len(setup):]:
            found = dict(zip(answer[1::2], answer[2::2]))
            told.append([found.get(number, 0) for number in range(lights)])
    return told


def told_text(text):
    """What rhythm answers if that's the text."""
    return [len(text), *text.encode("latin-1")]
