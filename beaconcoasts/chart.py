"""The chart, and the calls on it."""

from beaconcoasts.fields import is_field, is_track, read_pairs
from beaconcoasts.lights import Light
from beaconcoasts.places import by_rows, is_place
from beaconcoasts.rhythms import is_white_and_dark, read_rhythm, write_rhythm
from beaconcoasts.sectors import LAST_COLOUR, NOTHING, read_sectors
from beaconcoasts.walks import places_over, walks_over

LONGEST_REACH = 20000
MOST_BYTES = 1024
MOST_LIGHTS = 24
MOST_COASTS = 64
LAST_MOMENT = 1000000

LIGHT_CALL = 0
COAST_CALL = 1
SEEN_CALL = 2
AT_CALL = 3
RHYTHM_CALL = 4
WHERE_CALL = 5
TRACK_CALL = 6
TELL_CALL = 7
# of each call, by its number: how many whole numbers it has, and how many lists behind them
NUMBERS_OF_CALL = (3, 4, 2, 3, 3, 4, 5, 4, 0)
LISTS_OF_CALL = (2, 0, 0, 0, 0, 1, 0, 1, 0)


class Chart:
    """Lights and coasts. Each call gives back its answer: one number, and behind it what's told."""

    def __init__(self):
        self.lights = []
        self.coasts = []

    def light(self, x, y, reach, text, numbers):
        """Sets up a light; the numbers tell its sectors."""
        sectors = read_sectors(numbers)
        if not is_place((x, y)) or reach < 1 or reach > LONGEST_REACH or sectors is None:
            return [-1]
        if len(text) > MOST_BYTES:
            return [-2]
        phases, fault = read_rhythm(text)
        if fault is not None:
            return [-6, fault]
        if not is_white_and_dark(phases):
            return [-8]
        if len(self.lights) == MOST_LIGHTS:
            return [-5]
        self.lights.append(Light((x, y), reach, phases, sectors, self.coasts))
        return [len(self.lights) - 1]

    def coast(self, x, y, u, v):
        """Draws the coast from (x, y) to (u, v)."""
        if not is_place((x, y)) or not is_place((u, v)) or (x, y) == (u, v):
            return [-1]
        if len(self.coasts) == MOST_COASTS:
            return [-5]
        coast = ((x, y), (u, v))
        self.coasts.append(coast)
        for light in self.lights:
            light.hide_behind(coast)
        return [len(self.coasts)]

    def seen(self, x, y):
        """Which lights are seen from (x, y), whatever the time."""
        if not is_place((x, y)):
            return [-1]
        return tell_rows(self.lights_seen((x, y)))

    def at(self, moment, x, y):
        """Which lights are seen from (x, y) at the moment."""
        if moment > LAST_MOMENT or not is_place((x, y)):
            return [-1]
        found = self.lights_seen((x, y))
        return tell_rows([pair for pair in found if self.lights[pair[0]].is_on(moment)])

    def rhythm(self, number, x, y):
        """The text of a light's rhythm, as it's seen from (x, y)."""
        if not is_place((x, y)):
            return [-1]
        if number >= len(self.lights):
            return [-4]
        light = self.lights[number]
        colour = light.colour_seen((x, y))
        if colour == NOTHING:
            return [-3]
        text = write_rhythm(light.phases, colour)
        return [len(text)] + text

    def where(self, x, y, u, v, told):
        """From how many places of the field all that's told is so, and the first and the last of them."""
        walks, spots, refusal = self.look_over((x, y), (u, v), told)
        if refusal is not None:
            return [refusal]
        places = places_over(walks)
        left = sorted([places[spot] for spot in spots], key=by_rows)
        if len(left) == 0:
            return [0]
        return [len(left), left[0][0], left[0][1], left[-1][0], left[-1][1]]

    def track(self, x, y, u, v, n):
        """What changes on the way from (x, y) by n steps of (u, v) each."""
        if not is_track((x, y), (u, v), n):
            return [-1]
        return tell_rows(self.changes_on(((x, y), (u, v), n + 1)))

    def tell(self, x, y, u, v, told):
        """Of the places that where counts: the light to look for next, and how many have each colour of it."""
        walks, spots, refusal = self.look_over((x, y), (u, v), told)
        if refusal is not None:
            return [refusal]
        if len(spots) == 0 or len(self.lights) == 0:
            return [-3]
        counted = [count_colours(light.colours_over(walks), spots) for light in self.lights]
        best = number_of_least_greatest(counted)
        return [best] + counted[best]

    def begin_anew(self):
        """Takes all lights and coasts off the chart."""
        self.lights = []
        self.coasts = []
        return [0]

    def lights_seen(self, place):
        """The lights that are seen from the place: (number, colour) each, by numbers."""
        found = []
        for number, light in enumerate(self.lights):
            colour = light.colour_seen(place)
            if colour != NOTHING:
                found.append((number, colour))
        return found

    def look_over(self, corner, opposite, told):
        """The walks over a field, which of their places are left, and None; or none of them, and the refusal."""
        pairs = read_pairs(told)
        if not is_field(corner, opposite) or pairs is None:
            return [], [], -1
        if any([number >= len(self.lights) for number, colour in pairs]):
            return [], [], -4
        walks = walks_over(corner, opposite)
        return walks, self.spots_left(walks, pairs), None

    def spots_left(self, walks, pairs):
        """The places from which all the pairs are so: of each, how many stand before it on the walks."""
        spots = list(range(len(places_over(walks))))
        for number, colour in pairs:
            colours = self.lights[number].colours_over(walks)
            spots = [spot for spot in spots if colours[spot] == colour]
        return spots

    def changes_on(self, walk):
        """The changes (step, light, colour) along the walk, by steps, then lights."""
        seen_along = [light.colours_on(walk) for light in self.lights]
        changes = []
        for step in range(walk[2]):
            for number, colours in enumerate(seen_along):
                before = colours[step - 1] if step > 0 else NOTHING
                if colours[step] != before:
                    changes.append((step, number, colours[step]))
        return changes


def tell_rows(rows):
    """How many rows there are, and of each its numbers."""
    told = [len(rows)]
    for row in rows:
        told.extend(row)
    return told


def count_colours(colours, spots):
    """How many of the spots have each colour, from 0 on."""
    counts = [0] * (LAST_COLOUR + 1)
    for spot in spots:
        counts[colours[spot]] += 1
    return counts


def number_of_least_greatest(counted):
    """The first of the rows, by number, whose greatest number is the least."""
    best = 0
    for number, counts in enumerate(counted):
        if max(counts) < max(counted[best]):
            best = number
    return best


def answer_call(chart, call, numbers, lists):
    """The answer of the call with that number, on the chart."""
    if call == LIGHT_CALL:
        return chart.light(numbers[0], numbers[1], numbers[2], lists[0], lists[1])
    if call == COAST_CALL:
        return chart.coast(numbers[0], numbers[1], numbers[2], numbers[3])
    if call == SEEN_CALL:
        return chart.seen(numbers[0], numbers[1])
    if call == AT_CALL:
        return chart.at(numbers[0], numbers[1], numbers[2])
    if call == RHYTHM_CALL:
        return chart.rhythm(numbers[0], numbers[1], numbers[2])
    if call == WHERE_CALL:
        return chart.where(numbers[0], numbers[1], numbers[2], numbers[3], lists[0])
    if call == TRACK_CALL:
        return chart.track(numbers[0], numbers[1], numbers[2], numbers[3], numbers[4])
    if call == TELL_CALL:
        return chart.tell(numbers[0], numbers[1], numbers[2], numbers[3], lists[0])
    # clear, the one that is left of those with a place in the tables above
    return chart.begin_anew()


def read_lists(calls, count, start):
    """So many lists, each with its length before it, from start on; and where the next call begins."""
    lists = []
    for number in range(count):
        end = start + 1 + calls[start]
        lists.append(calls[start + 1:end])
        start = end
    return lists, start


def answers(calls):
    """Of each call, one behind the other on a new chart: how many numbers it answers, and they."""
    chart = Chart()
    told = []
    start = 0
    while start < len(calls):
        call = calls[start]
        behind = start + 1 + NUMBERS_OF_CALL[call]
        numbers = calls[start + 1:behind]
        lists, start = read_lists(calls, LISTS_OF_CALL[call], behind)
        answer = answer_call(chart, call, numbers, lists)
        told.append(len(answer))
        told.extend(answer)
    return told
