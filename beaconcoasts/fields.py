"""Fields of places and ways through them, which there are, and what may be told of what's seen there."""

from beaconcoasts.places import is_place
from beaconcoasts.sectors import LAST_COLOUR

MOST_PLACES = 1024
MOST_PAIRS = 24
NUMBERS_OF_PAIR = 2
MOST_STEPS = 500
LONGEST_STEP = 1000


def is_field(corner, opposite):
    """If the places from one corner to the other are a field that may be asked for."""
    if not is_place(corner) or not is_place(opposite):
        return False
    width = opposite[0] - corner[0] + 1
    height = opposite[1] - corner[1] + 1
    return width >= 1 and height >= 1 and width * height <= MOST_PLACES


def is_track(start, step, count):
    """If so many steps from the start are a way that may be asked for."""
    u, v = step
    if count > MOST_STEPS or u < -LONGEST_STEP or u > LONGEST_STEP or v < -LONGEST_STEP or v > LONGEST_STEP:
        return False
    return is_place(start) and is_place((start[0] + count * u, start[1] + count * v))


def read_pairs(told):
    """The pairs (light, colour) that the numbers tell, or None if they tell none."""
    count = len(told) // NUMBERS_OF_PAIR
    if len(told) != count * NUMBERS_OF_PAIR or count > MOST_PAIRS:
        return None
    pairs = []
    for pair in range(count):
        start = pair * NUMBERS_OF_PAIR
        number, colour = told[start:start + NUMBERS_OF_PAIR]
        if colour > LAST_COLOUR:
            return None
        pairs.append((number, colour))
    return pairs
