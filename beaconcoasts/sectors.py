"""Directions in order, and the sectors that begin at them."""

from beaconcoasts.places import turn_between

NOTHING = 0
LAST_COLOUR = 4
MOST_SECTORS = 12
NUMBERS_OF_SECTOR = 3
LONGEST_DIRECTION = 1000


def is_direction(x, y):
    """If a sector may begin at (x, y)."""
    if x == 0 and y == 0:
        return False
    return -LONGEST_DIRECTION <= x <= LONGEST_DIRECTION and -LONGEST_DIRECTION <= y <= LONGEST_DIRECTION


def half_of_turn(way):
    """0 from (1, 0) on up to (-1, 0), that one not; 1 from there on."""
    x, y = way
    if y > 0 or (y == 0 and x > 0):
        return 0
    return 1


def is_before(first, second):
    """If the first direction comes before the second, turning from (1, 0)."""
    if half_of_turn(first) != half_of_turn(second):
        return half_of_turn(first) < half_of_turn(second)
    # within half a turn the sooner one has the later one on its left
    return turn_between(first, second) > 0


def is_next_sector(sectors, x, y, colour):
    """If (x, y) with the colour may stand behind the sectors."""
    if not is_direction(x, y) or colour < NOTHING or colour > LAST_COLOUR:
        return False
    return len(sectors) == 0 or is_before(sectors[-1][:2], (x, y))


def read_sectors(numbers):
    """The sectors, (x, y, colour) each, that the numbers tell, or None if they tell none."""
    count = len(numbers) // NUMBERS_OF_SECTOR
    if len(numbers) != count * NUMBERS_OF_SECTOR or count < 1 or count > MOST_SECTORS:
        return None
    sectors = []
    for sector in range(count):
        start = sector * NUMBERS_OF_SECTOR
        x, y, colour = numbers[start:start + NUMBERS_OF_SECTOR]
        if not is_next_sector(sectors, x, y, colour):
            return None
        sectors.append((x, y, colour))
    return sectors


def colour_towards(sectors, way):
    """The colour of the sector in which the direction lies."""
    # ahead of the first border the last sector still goes on
    shown = sectors[-1][2]
    for x, y, colour in sectors:
        if is_before(way, (x, y)):
            return shown
        shown = colour
    return shown
