"""Coasts, (one end, the other end) each, and the shadows in which they hide a light.

A shadow is a list of borders, (a, b, c) each: the places (x, y) in it are those for which a * x + b * y + c is no less
than 0 at every border.
"""

from beaconcoasts.places import square_of_length, turn_between, way_between


def border_along(start, way):
    """The border of what lies left of the line through start that goes this way, or on it."""
    return (-way[1], way[0], turn_between(start, way))


def shadow_in_line(light, coast):
    """The shadow of a coast that lies in one line with the light."""
    first = way_between(light, coast[0])
    second = way_between(light, coast[1])
    if first[0] * second[0] + first[1] * second[1] <= 0:
        # the coast touches the light itself, so nothing bounds its shadow
        return []
    x, y = first if square_of_length(first) < square_of_length(second) else second
    near = (light[0] + x, light[1] + y)
    # on the line, seen from both sides of it, and from the near end on
    return [border_along(near, (x, y)), border_along(near, (-x, -y)), border_along(near, (y, -x))]


def shadow_of(light, coast):
    """Where the coast touches the straight from the light."""
    first, second = coast
    side = turn_between(way_between(light, first), way_between(light, second))
    if side == 0:
        return shadow_in_line(light, coast)
    if side < 0:
        first, second = second, first
    # left of the straight to the first end, right of that to the second, and not on the light's side of the coast
    return [border_along(light, way_between(light, first)), border_along(second, way_between(second, light)),
            border_along(second, way_between(second, first))]


def numbers_within(shadow, walk):
    """From which to which the walk's places lie in the shadow, by number: the last is below the first if none does."""
    start, step, count = walk
    first = 0
    last = count - 1
    # a shadow has no dents, so what lies in it of a walk hangs together
    for a, b, c in shadow:
        begun = a * start[0] + b * start[1] + c
        gain = a * step[0] + b * step[1]
        if gain > 0:
            # the first number times the gain that makes up for what is missing, so rounded up
            first = max(first, -(begun // gain))
        elif gain < 0:
            last = min(last, begun // -gain)
        elif begun < 0:
            last = -1
    return first, last


def hidden_on(shadows, walk):
    """Of each place of the walk, if it lies in a shadow."""
    hidden = [False] * walk[2]
    for shadow in shadows:
        first, last = numbers_within(shadow, walk)
        for number in range(first, last + 1):
            hidden[number] = True
    return hidden
