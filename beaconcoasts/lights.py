"""A light: where it stands, how far it's seen, in which rhythm and which sectors."""

from beaconcoasts.coasts import is_hidden
from beaconcoasts.places import square_of_length, way_between
from beaconcoasts.rhythms import WHITE, colour_byte_at
from beaconcoasts.sectors import NOTHING, colour_towards


class Light:
    """One light of a chart."""

    def __init__(self, place, reach, phases, sectors):
        self.place = place
        self.reach = reach
        self.phases = phases
        self.sectors = sectors

    def colour_seen(self, place, coasts):
        """The colour in which it's seen from the place, whatever the time; 0 if it isn't."""
        way = way_between(self.place, place)
        if way == (0, 0) or square_of_length(way) > self.reach * self.reach:
            return NOTHING
        colour = colour_towards(self.sectors, way)
        # the coasts are many, so they are asked last
        if colour == NOTHING or is_hidden(coasts, self.place, place):
            return NOTHING
        return colour

    def is_on(self, moment):
        """If its rhythm is white at the moment."""
        return colour_byte_at(self.phases, moment) == WHITE
