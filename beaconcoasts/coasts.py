"""Coasts, (one end, the other end) each, and what they hide."""

from beaconcoasts.places import turn_between, way_between


def spans_meet(a, b, c, d):
    """If the numbers from a to b, whichever is less, and those from c to d have one in common."""
    return min(a, b) <= max(c, d) and min(c, d) <= max(a, b)


def is_on_both_sides(start, end, first, second):
    """If the two places lie on two sides of the line through start and end, or one lies on it."""
    way = way_between(start, end)
    return turn_between(way, way_between(start, first)) * turn_between(way, way_between(start, second)) <= 0


def straights_touch(a, b, c, d):
    """If the straight from a to b has a point in common with that from c to d, ends counted."""
    # of straights on one line only these spans tell whether they meet
    if not spans_meet(a[0], b[0], c[0], d[0]) or not spans_meet(a[1], b[1], c[1], d[1]):
        return False
    return is_on_both_sides(a, b, c, d) and is_on_both_sides(c, d, a, b)


def is_hidden(coasts, start, end):
    """If a coast touches the straight between two places."""
    for first, second in coasts:
        if straights_touch(start, end, first, second):
            return True
    return False
