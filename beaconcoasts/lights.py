"""A light: where it stands, how far it's seen, in which rhythm and which sectors, and what hides it."""

from beaconcoasts.coasts import hidden_on, shadow_of
from beaconcoasts.places import square_of_length, way_between
from beaconcoasts.rhythms import WHITE, colour_byte_at
from beaconcoasts.sectors import NOTHING, colour_towards
from beaconcoasts.walks import places_on


class Light:
    """One light of a chart."""

    def __init__(self, place, reach, phases, sectors, coasts):
        self.place = place
        self.reach = reach
        self.phases = phases
        self.sectors = sectors
        # kept, as a light stays where it is and is looked for from many places
        self.shadows = [shadow_of(place, coast) for coast in coasts]

    def hide_behind(self, coast):
        """Lets one more coast hide it."""
        self.shadows.append(shadow_of(self.place, coast))

    def colour_shown(self, place):
        """The colour in which it would be seen from the place if there were no coasts."""
        way = way_between(self.place, place)
        if way == (0, 0) or square_of_length(way) > self.reach * self.reach:
            return NOTHING
        return colour_towards(self.sectors, way)

    def colours_on(self, walk):
        """The colours in which it's seen from the walk's places, whatever the time."""
        hidden = hidden_on(self.shadows, walk)
        return [NOTHING if covered else self.colour_shown(place) for place, covered in zip(places_on(walk), hidden)]

    def colours_over(self, walks):
        """The colours in which it's seen from the places of all the walks, one walk behind the other."""
        colours = []
        for walk in walks:
            colours.extend(self.colours_on(walk))
        return colours

    def colour_seen(self, place):
        """The colour in which it's seen from one place."""
        return self.colours_on((place, (0, 0), 1))[0]

    def is_on(self, moment):
        """If its rhythm is white at the moment."""
        return colour_byte_at(self.phases, moment) == WHITE
