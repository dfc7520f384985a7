"""Places, and the ways between them."""

FARTHEST = 10000


def is_place(place):
    """If both numbers are within the chart."""
    x, y = place
    return -FARTHEST <= x <= FARTHEST and -FARTHEST <= y <= FARTHEST


def by_rows(place):
    """By this places are sorted by y, then x."""
    return (place[1], place[0])


def way_between(start, end):
    """The direction from one place to another, as long as they are apart."""
    return (end[0] - start[0], end[1] - start[1])


def square_of_length(way):
    """The square of how far a way goes: so it stays a whole number."""
    x, y = way
    return x * x + y * y


def turn_between(first, second):
    """More than 0 if the second way goes left of the first, less if right of it, 0 if along its line."""
    return first[0] * second[1] - first[1] * second[0]
