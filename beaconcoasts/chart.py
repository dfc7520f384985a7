"""The chart, and the calls on it."""

from beaconcoasts.lights import Light
from beaconcoasts.places import is_place
from beaconcoasts.rhythms import is_white_and_dark, read_rhythm, write_rhythm
from beaconcoasts.sectors import NOTHING, read_sectors

LONGEST_REACH = 20000
MOST_BYTES = 1024
MOST_LIGHTS = 24
MOST_COASTS = 64
LAST_MOMENT = 1000000

LIGHT_CALL = 0
COAST_CALL = 1
SEEN_CALL = 2
AT_CALL = 3
# of each call, by its number: how many whole numbers it has, and how many lists behind them
NUMBERS_OF_CALL = (3, 4, 2, 3, 3)
LISTS_OF_CALL = (2, 0, 0, 0, 0)


class Chart:
    """Lights and coasts. Each call gives back its answer: one number, and behind it what's told."""

    def __init__(self):
        self.lights = []
        self.coasts = []

    def light(self, x, y, reach, text, numbers):
        """Sets up a light; the numbers tell its sectors."""
        sectors = read_sectors(numbers)
        if not is_place((x, y)) or reach < 1 or reach > LONGEST_REACH or sectors is None:
            return [-1]
        if len(text) > MOST_BYTES:
            return [-2]
        phases, fault = read_rhythm(text)
        if fault is not None:
            return [-6, fault]
        if not is_white_and_dark(phases):
            return [-8]
        if len(self.lights) == MOST_LIGHTS:
            return [-5]
        self.lights.append(Light((x, y), reach, phases, sectors))
        return [len(self.lights) - 1]

    def coast(self, x, y, u, v):
        """Draws the coast from (x, y) to (u, v)."""
        if not is_place((x, y)) or not is_place((u, v)) or (x, y) == (u, v):
            return [-1]
        if len(self.coasts) == MOST_COASTS:
            return [-5]
        self.coasts.append(((x, y), (u, v)))
        return [len(self.coasts)]

    def seen(self, x, y):
        """Which lights are seen from (x, y), whatever the time."""
        if not is_place((x, y)):
            return [-1]
        return tell_seen(self.lights_seen((x, y)))

    def at(self, moment, x, y):
        """Which lights are seen from (x, y) at the moment."""
        if moment > LAST_MOMENT or not is_place((x, y)):
            return [-1]
        found = self.lights_seen((x, y))
        return tell_seen([pair for pair in found if self.lights[pair[0]].is_on(moment)])

    def rhythm(self, number, x, y):
        """The text of a light's rhythm, as it's seen from (x, y)."""
        if not is_place((x, y)):
            return [-1]
        if number >= len(self.lights):
            return [-4]
        light = self.lights[number]
        colour = light.colour_seen((x, y), self.coasts)
        if colour == NOTHING:
            return [-3]
        text = write_rhythm(light.phases, colour)
        return [len(text)] + text

    def lights_seen(self, place):
        """The lights that are seen from the place: (number, colour) each, by numbers."""
        found = []
        for number, light in enumerate(self.lights):
            colour = light.colour_seen(place, self.coasts)
            if colour != NOTHING:
                found.append((number, colour))
        return found


def tell_seen(found):
    """How many lights were found, and of each its number and colour."""
    told = [len(found)]
    for number, colour in found:
        told.append(number)
        told.append(colour)
    return told


def answer_call(chart, call, numbers, lists):
    """The answer of the call with that number, on the chart."""
    if call == LIGHT_CALL:
        return chart.light(numbers[0], numbers[1], numbers[2], lists[0], lists[1])
    if call == COAST_CALL:
        return chart.coast(numbers[0], numbers[1], numbers[2], numbers[3])
    if call == SEEN_CALL:
        return chart.seen(numbers[0], numbers[1])
    if call == AT_CALL:
        return chart.at(numbers[0], numbers[1], numbers[2])
    # the one that is left, of those with a row in the tables above
    return chart.rhythm(numbers[0], numbers[1], numbers[2])


def read_lists(calls, count, start):
    """So many lists, each with its length before it, from start on; and where the next call begins."""
    lists = []
    for number in range(count):
        end = start + 1 + calls[start]
        lists.append(calls[start + 1:end])
        start = end
    return lists, start


def answers(calls):
    """Of each call, one behind the other on a new chart: how many numbers it answers, and they."""
    chart = Chart()
    told = []
    start = 0
    while start < len(calls):
        call = calls[start]
        behind = start + 1 + NUMBERS_OF_CALL[call]
        numbers = calls[start + 1:behind]
        lists, start = read_lists(calls, LISTS_OF_CALL[call], behind)
        answer = answer_call(chart, call, numbers, lists)
        told.append(len(answer))
        told.extend(answer)
    return told
