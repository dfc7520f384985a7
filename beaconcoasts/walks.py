"""Walks: places in a row, (start, step, how many) each, one step from each place to the next."""


def places_on(walk):
    """The places of one walk, in order."""
    start, step, count = walk
    return [(start[0] + number * step[0], start[1] + number * step[1]) for number in range(count)]


def places_over(walks):
    """The places of all walks, one walk behind the other."""
    places = []
    for walk in walks:
        places.extend(places_on(walk))
    return places


def walks_over(corner, opposite):
    """Walks that pass each place between two corners once, ends counted."""
    left, low = corner
    right, high = opposite
    width = right - left + 1
    height = high - low + 1
    # along the longer side, as each walk is a piece of work for each coast
    if width >= height:
        return [((left, low + number), (1, 0), width) for number in range(height)]
    return [((left + number, low), (0, 1), height) for number in range(width)]
