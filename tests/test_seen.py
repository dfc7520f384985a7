"""The call seen: range, sectors, coasts."""

import unittest

from tests.calls import coast, last, light, run, seen

QUARTERS = (1, 0, 1, 0, 1, 2, -1, 0, 3, 0, -1, 4)


class Answers(unittest.TestCase):
    def test_no_lights(self):
        self.assertEqual(last(seen(0, 0)), [0])

    def test_by_numbers(self):
        told = last(light(9, 0, 20, "W5", (1, 0, 4)), light(0, 0, 2), light(0, 9, 20, "W5", (1, 0, 2)), seen(3, 3))
        self.assertEqual(told, [2, 0, 4, 2, 2])

    def test_what_is_no_place(self):
        for far in (10001, -10001, 2147483647, -2147483648):
            self.assertEqual(last(light(), seen(far, 0)), [-1])
            self.assertEqual(last(light(), seen(0, far)), [-1])

    def test_the_farthest_places(self):
        self.assertEqual(last(light(9999, 10000), seen(10000, 10000)), [1, 0, 1])
        self.assertEqual(last(light(-10000, -9999), seen(-10000, -10000)), [1, 0, 1])

    def test_whatever_the_rhythm(self):
        self.assertEqual(last(light(text="-600"), seen(1, 1)), [1, 0, 1])


class Ranges(unittest.TestCase):
    def test_just_at_the_range(self):
        for x, y in ((5, 0), (3, 4), (-4, 3), (0, -5), (-3, -4)):
            self.assertEqual(last(light(reach=5), seen(x, y)), [1, 0, 1])

    def test_just_beyond_it(self):
        for x, y in ((6, 0), (4, 4), (5, 1), (-1, 5), (0, -6), (-4, -4)):
            self.assertEqual(last(light(reach=5), seen(x, y)), [0])

    def test_range_one(self):
        self.assertEqual(run(light(reach=1), seen(1, 0), seen(1, 1), seen(0, -1), seen(2, 0))[1:],
                         [[1, 0, 1], [0], [1, 0, 1], [0]])

    def test_far_away(self):
        self.assertEqual(last(light(-10000, 0, 20000), seen(10000, 0)), [1, 0, 1])
        self.assertEqual(last(light(-10000, 0, 19999), seen(10000, 0)), [0])
        self.assertEqual(last(light(-10000, 0, 20000), seen(10000, 1)), [0])
        self.assertEqual(last(light(-10000, -10000, 20000), seen(10000, 10000)), [0])
        self.assertEqual(last(light(-10000, -6000, 20000), seen(2000, 10000)), [1, 0, 1])

    def test_it_is_measured_from_the_light(self):
        self.assertEqual(last(light(100, 100, 5), seen(103, 104)), [1, 0, 1])
        self.assertEqual(last(light(100, 100, 5), seen(3, 4)), [0])

    def test_at_its_own_place(self):
        self.assertEqual(last(light(), seen(0, 0)), [0])
        self.assertEqual(last(light(7, -7, 20000), light(6, -7), seen(7, -7)), [1, 1, 1])


class Sectors(unittest.TestCase):
    def colour(self, sectors, x, y, place=(0, 0)):
        told = last(light(*place, 20000, "W5", sectors), seen(place[0] + x, place[1] + y))
        return told[2] if told[0] else 0

    def test_each_quarter(self):
        for x, y, colour in ((2, 1, 1), (-1, 2, 2), (-2, -1, 3), (1, -2, 4)):
            self.assertEqual(self.colour(QUARTERS, x, y), colour)

    def test_a_border_belongs_to_the_sector_that_begins_there(self):
        for x, y, colour in ((1, 0, 1), (0, 1, 2), (-1, 0, 3), (0, -1, 4)):
            for times in (1, 7, 9000):
                self.assertEqual(self.colour(QUARTERS, x * times, y * times), colour)

    def test_hardly_off_a_border(self):
        for x, y, colour in ((9000, 1, 1), (9000, -1, 4), (1, 9000, 1), (-1, 9000, 2), (-9000, 1, 2), (-9000, -1, 3),
                             (-1, -9000, 3), (1, -9000, 4)):
            self.assertEqual(self.colour(QUARTERS, x, y), colour)

    def test_a_border_that_is_no_axis(self):
        sectors = (999, 1000, 2, -1000, 999, 3, 1000, -999, 4)
        for x, y, colour in ((999, 1000, 2), (1998, 2000, 2), (1000, 1001, 4), (999, 1001, 2), (1000, 1000, 4),
                             (-2000, 1998, 3), (-2000, 1999, 2), (-2000, 1997, 3), (2000, -1998, 4), (2000, -1999, 3),
                             (2000, -1997, 4)):
            self.assertEqual(self.colour(sectors, x, y), colour, (x, y))

    def test_ahead_of_the_first_border_the_last_goes_on(self):
        sectors = (0, 1, 2, -1, 0, 3)
        for x, y, colour in ((1, 0, 3), (5, 1, 3), (5, -1, 3), (0, 1, 2), (1, 9, 3), (-1, 9, 2), (-1, 0, 3)):
            self.assertEqual(self.colour(sectors, x, y), colour)

    def test_one_sector_is_all_round(self):
        for begin in ((1, 0), (0, 1), (-3, 2), (-1, 0), (2, -5)):
            for x, y in ((1, 0), (1, 1), (-3, 2), (-6, 4), (3, -2), (-1, 0), (0, -1), (2, -5), (-2, 5)):
                self.assertEqual(self.colour((*begin, 3), x, y), 3)

    def test_colour_nothing(self):
        sectors = (1, 0, 0, 0, 1, 2)
        self.assertEqual(last(light(sectors=sectors), seen(1, 1)), [0])
        self.assertEqual(last(light(sectors=sectors), seen(1, 0)), [0])
        self.assertEqual(last(light(sectors=sectors), seen(0, 1)), [1, 0, 2])
        self.assertEqual(last(light(sectors=(1, 0, 0)), seen(-1, 1)), [0])

    def test_the_way_goes_from_the_light_to_the_place(self):
        self.assertEqual(self.colour(QUARTERS, 3, 3, (-50, -50)), 1)
        self.assertEqual(self.colour(QUARTERS, -3, -3, (50, 50)), 3)

    def test_far_apart(self):
        sectors = (1000, 999, 2, 999, 1000, 3)
        for x, y, colour in ((14000, 13986, 2), (14000, 13985, 3), (13986, 14000, 3), (13987, 14000, 2)):
            self.assertEqual(self.colour(sectors, x, y, (-9000, -9000)), colour)


class Coasts(unittest.TestCase):
    """The light stands at (0, 0), the place lies at (8, 4), if nothing else is said."""

    def check(self, ends, is_seen, place=(8, 4)):
        x, y, u, v = ends
        for coasts in ((x, y, u, v), (u, v, x, y)):
            self.assertEqual(last(light(), coast(*coasts), seen(*place)), [1, 0, 1] if is_seen else [0], coasts)

    def test_crossing(self):
        for ends in ((0, 4, 8, 0), (4, 3, 4, 1), (3, 2, 5, 2), (-10000, 10000, 10000, -9999), (4, 10000, 4, -10000)):
            self.check(ends, False)

    def test_crossing_between_whole_numbers(self):
        self.check((3, 1, 3, 2), False)
        self.check((1, 0, 1, 1), False)

    def test_touching_with_an_end(self):
        self.check((4, 2, 4, 9), False)
        self.check((4, 2, 9, -9), False)
        self.check((2, 1, 2, 0), False)

    def test_ending_just_short_of_it(self):
        for ends in ((4, 3, 4, 9), (4, 1, 9, -9), (3, 2, 0, 9), (5, 2, 9, 2), (7, 4, 7, 9), (9, 5, 9, 3), (1, 1, 0, 1)):
            self.check(ends, True)

    def test_hardly_short_of_it_far_away(self):
        # of the straight by (14000, 13999) no whole numbers lie nearer than these
        for x, y, is_seen in ((6999, 6999, True), (6999, 6998, False), (7000, 6999, False), (7000, 7000, True)):
            told = last(light(-7000, -7000, 20000), coast(-7000, 7000, x, y), seen(7000, 6999))
            self.assertEqual(told, [1, 0, 1] if is_seen else [0], (x, y))
        for x, y, is_seen in ((6999, 6998, True), (6999, 6999, False), (7000, 6998, True), (-6999, -7000, True)):
            told = last(light(-7000, -7000, 20000), coast(7000, -7000, x, y), seen(7000, 6999))
            self.assertEqual(told, [1, 0, 1] if is_seen else [0], (x, y))

    def test_along_the_straight(self):
        for ends in ((2, 1, 4, 2), (-2, -1, 10, 5), (0, 0, 8, 4), (4, 2, 20, 10), (-4, -2, 2, 1)):
            self.check(ends, False)

    def test_on_its_line_beyond_it(self):
        self.check((10, 5, 20, 10), True)
        self.check((-2, -1, -4, -2), True)

    def test_on_its_line_touching_an_end(self):
        self.check((8, 4, 10, 5), False)
        self.check((-2, -1, 0, 0), False)

    def test_along_an_axis(self):
        for x, y, u, v, is_seen in ((2, 0, 4, 0, False), (9, 0, 10, 0, True), (8, 0, 9, 0, False), (-1, 0, 0, 0, False),
                                    (-2, 0, -1, 0, True), (2, 1, 6, 1, True), (-1, 0, 9, 0, False)):
            self.check((x, y, u, v), is_seen, (8, 0))
            self.check((y, x, v, u), is_seen, (0, 8))

    def test_through_the_lights_place(self):
        self.check((-1, 1, 1, -1), False)
        self.check((0, 0, -5, 5), False)
        self.check((0, 0, -8, -4), False)

    def test_through_the_seeing_ones_place(self):
        self.check((7, 5, 9, 3), False)
        self.check((8, 4, 8, 5), False)
        self.check((8, 4, 9, 9), False)

    def test_just_behind_the_light_or_the_place(self):
        self.check((-1, 0, 0, -1), True)
        self.check((-9, 9, 8, -9), True)
        self.check((8, 5, 9, 4), True)
        self.check((0, 9, 20, 0), True)

    def test_side_by_side(self):
        self.check((0, 1, 8, 5), True)
        self.check((1, 0, 9, 4), True)
        # no whole numbers lie between these two
        self.check((0, 1, 1, 2), True, (1, 1))
        self.check((1, 0, 2, 1), True, (1, 1))

    def test_along_a_line_that_is_no_axis(self):
        for begin, end, is_seen in ((-9, -6, True), (-9, -5, False), (-3, -1, False), (2, 9, False), (3, 9, True)):
            answer = [1, 0, 1] if is_seen else [0]
            self.assertEqual(last(light(30, -5), coast(30, begin, 30, end), seen(30, 2)), answer)
            self.assertEqual(last(light(-5, 30), coast(begin, 30, end, 30), seen(2, 30)), answer)

    def test_its_line_is_crossed_but_not_within_it(self):
        self.check((9, 1, 9, 9), True)
        self.check((1, 3, 7, 5), True)

    def test_any_one_of_several(self):
        far = [coast(number, 50, number, 60) for number in range(5)]
        self.assertEqual(last(light(), *far, coast(4, 0, 4, 4), *far, seen(8, 4)), [0])
        self.assertEqual(last(light(), *far, seen(8, 4)), [1, 0, 1])

    def test_each_light_by_itself(self):
        told = last(light(0, 0), light(0, 9), light(20, 4), coast(4, 0, 4, 4), seen(8, 4))
        self.assertEqual(told, [2, 1, 1, 2, 1])

    def test_a_coast_drawn_later_hides_from_then_on(self):
        self.assertEqual(run(light(), seen(8, 4), coast(4, 0, 4, 4), seen(8, 4)), [[0], [1, 0, 1], [1], [0]])

    def test_a_coast_drawn_before_the_light_hides_too(self):
        self.assertEqual(last(coast(4, 0, 4, 4), light(), seen(8, 4)), [0])


if __name__ == "__main__":
    unittest.main()
