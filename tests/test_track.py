"""The call track: each change at its step, and what is refused."""

import unittest

from tests.calls import clear, coast, colours_seen, last, light, run, track

QUARTERS = (1, 0, 1, 0, 1, 2, -1, 0, 3, 0, -1, 4)


def changed(setup, x, y, u, v, n):
    """What track is to answer, step by step by what seen tells."""
    places = [(x + step * u, y + step * v) for step in range(n + 1)]
    lights = len([call for call in setup if call[0] == 0])
    told = []
    before = [0] * lights
    for step, colours in enumerate(colours_seen(setup, places, lights)):
        told += [(step, number, colours[number]) for number in range(lights) if colours[number] != before[number]]
        before = colours
    return [len(told), *[number for change in told for number in change]]


class Beginnings(unittest.TestCase):
    def test_no_lights(self):
        self.assertEqual(last(track(0, 0, 1, 0, 9)), [0])
        self.assertEqual(last(coast(0, 5, 9, -5), track(0, 0, 1, 0, 9)), [0])

    def test_what_is_seen_at_the_beginning(self):
        lights = [light(0, 0, 9, "W5", (1, 0, 2)), light(50, 0, 9), light(0, 5, 9, "W5", (1, 0, 4))]
        self.assertEqual(last(*lights, track(1, 0, 0, 0, 0)), [2, 0, 0, 2, 0, 2, 4])

    def test_what_is_not_seen_there_is_not_told(self):
        for calls in ([light(9, 9, 2)], [light(1, 1)], [light(sectors=(1, 0, 0))], [light(), coast(1, 0, 0, 1)]):
            self.assertEqual(last(*calls, track(1, 1, 0, 0, 0)), [0])

    def test_no_steps(self):
        for u, v in ((0, 0), (1, 0), (-1000, 1000), (3, -5)):
            self.assertEqual(last(light(), track(1, 1, u, v, 0)), [1, 0, 0, 1])

    def test_steps_that_go_nowhere(self):
        self.assertEqual(last(light(), light(5, 1, 2), track(1, 1, 0, 0, 500)), [1, 0, 0, 1])
        self.assertEqual(last(light(1, 1), track(1, 1, 0, 0, 500)), [0])


class Changes(unittest.TestCase):
    def test_into_the_range_and_out_of_it(self):
        lit = light(0, 0, 5)
        self.assertEqual(last(lit, track(-7, 3, 1, 0, 14)), [2, 3, 0, 1, 12, 0, 0])
        self.assertEqual(last(lit, track(7, 3, -1, 0, 14)), [2, 3, 0, 1, 12, 0, 0])
        self.assertEqual(last(lit, track(3, 7, 0, -1, 14)), [2, 3, 0, 1, 12, 0, 0])

    def test_out_of_the_range_and_back(self):
        # one straight way can't come back into the range that it has left, so it takes two
        told = run(light(0, 0, 5), track(0, 3, 1, 0, 6), track(6, 3, -1, 0, 6))
        self.assertEqual(told[1:], [[2, 0, 0, 1, 5, 0, 0], [1, 2, 0, 1]])

    def test_through_its_own_place(self):
        self.assertEqual(last(light(0, 0, 3), track(-5, 0, 1, 0, 10)), [4, 2, 0, 1, 5, 0, 0, 6, 0, 1, 9, 0, 0])
        self.assertEqual(last(light(0, 0, 3), track(0, 0, 0, 1, 9)), [2, 1, 0, 1, 4, 0, 0])
        self.assertEqual(last(light(0, 0, 3), track(-2, 0, 1, 0, 2)), [2, 0, 0, 1, 2, 0, 0])

    def test_just_where_a_step_ends(self):
        # the steps leap over the light's place, or over its whole range
        self.assertEqual(last(light(0, 0, 3), track(-3, 0, 2, 0, 3)), [1, 0, 0, 1])
        self.assertEqual(last(light(0, 0, 3), track(-8, 0, 16, 0, 1)), [0])
        self.assertEqual(last(light(0, 0, 3), track(-8, 0, 8, 0, 2)), [0])
        self.assertEqual(last(light(0, 0, 3), track(-8, 0, 7, 0, 2)), [2, 1, 0, 1, 2, 0, 0])

    def test_along_a_coast(self):
        calls = [light(0, 5), coast(0, 0, 4, 0)]
        self.assertEqual(last(*calls, track(-3, 0, 1, 0, 10)), [3, 0, 0, 1, 3, 0, 0, 8, 0, 1])
        self.assertEqual(last(*calls, track(-3, 1, 1, 0, 10)), [1, 0, 0, 1])
        self.assertEqual(last(*calls, track(0, 1, 0, -1, 2)), [2, 0, 0, 1, 1, 0, 0])

    def test_along_a_coast_in_line_with_the_light(self):
        calls = [light(0, 0), coast(3, 0, 5, 0)]
        self.assertEqual(last(*calls, track(1, 0, 1, 0, 9)), [2, 0, 0, 1, 2, 0, 0])
        self.assertEqual(last(*calls, track(9, 0, -1, 0, 18)), [3, 7, 0, 1, 9, 0, 0, 10, 0, 1])
        self.assertEqual(last(*calls, track(4, 2, 0, -1, 4)), [3, 0, 0, 1, 2, 0, 0, 3, 0, 1])

    def test_behind_a_coast_and_out_again(self):
        calls = [light(0, 0), coast(2, -1, 2, 1)]
        self.assertEqual(last(*calls, track(4, -4, 0, 1, 8)), [3, 0, 0, 1, 2, 0, 0, 7, 0, 1])
        self.assertEqual(last(*calls, track(0, 0, 1, 0, 9)), [2, 1, 0, 1, 2, 0, 0])

    def test_over_borders(self):
        lit = light(0, 0, 100, "W5", QUARTERS)
        self.assertEqual(last(lit, track(2, 3, -1, 0, 4)), [2, 0, 0, 1, 2, 0, 2])
        self.assertEqual(last(lit, track(-2, 3, 1, 0, 4)), [2, 0, 0, 2, 3, 0, 1])
        self.assertEqual(last(lit, track(-3, 2, 0, -1, 4)), [2, 0, 0, 2, 2, 0, 3])
        self.assertEqual(last(lit, track(-2, -3, 1, 0, 4)), [2, 0, 0, 3, 2, 0, 4])
        self.assertEqual(last(lit, track(3, -2, 0, 1, 4)), [2, 0, 0, 4, 2, 0, 1])
        self.assertEqual(last(lit, track(3, 2, 0, -1, 4)), [2, 0, 0, 1, 3, 0, 4])

    def test_over_a_border_through_the_light(self):
        lit = light(0, 0, 100, "W5", QUARTERS)
        self.assertEqual(last(lit, track(-1, -1, 1, 1, 2)), [3, 0, 0, 3, 1, 0, 0, 2, 0, 1])

    def test_along_a_border(self):
        lit = light(0, 0, 100, "W5", QUARTERS)
        self.assertEqual(last(lit, track(0, 1, 0, 1, 20)), [1, 0, 0, 2])

    def test_several_at_one_step_by_lights(self):
        lights = [light(0, 0, 2), light(0, 0, 3, "W5", (1, 0, 2)), light(0, 1, 2), light(0, 0, 2, "W5", (1, 0, 4))]
        self.assertEqual(last(*lights, track(1, 0, 1, 0, 4)),
                         [8, 0, 0, 1, 0, 1, 2, 0, 2, 1, 0, 3, 4, 1, 2, 0, 2, 0, 0, 2, 3, 0, 3, 1, 0])

    def test_by_steps_before_lights(self):
        lights = [light(9, 0, 2), light(5, 0, 2), light(1, 0, 2)]
        self.assertEqual(last(*lights, track(0, 1, 4, 0, 2)), [5, 0, 2, 1, 1, 1, 1, 1, 2, 0, 2, 0, 1, 2, 1, 0])

    def test_the_longest_way(self):
        self.assertEqual(last(light(0, 0, 20000), track(-250, 0, 1, 0, 500)), [3, 0, 0, 1, 250, 0, 0, 251, 0, 1])
        self.assertEqual(last(light(0, 0, 249), track(-250, 0, 1, 0, 500)),
                         [4, 1, 0, 1, 250, 0, 0, 251, 0, 1, 500, 0, 0])

    def test_each_step_is_as_seen_tells(self):
        calls = [light(3, 4, 9, "W5", QUARTERS), light(12, 2, 12, "W5", (2, 1, 3, -1, 3, 0, -2, -1, 1)),
                 coast(0, 0, 6, 2), coast(5, 5, 5, 9), coast(8, 0, 9, 9), coast(10, 8, 14, 8), coast(6, 4, 8, 4)]
        for way in ((-8, -8, 1, 1, 30), (-8, 4, 1, 0, 40), (3, 20, 0, -1, 40), (20, -8, -1, 1, 30), (-8, 1, 2, 1, 20),
                    (9, -5, 0, 1, 20), (17, 17, -2, -2, 12), (-20, 9, 3, 0, 15), (0, 0, 3, 1, 9), (14, 9, -1, -1, 14)):
            self.assertEqual(last(*calls, track(*way)), changed(calls, *way), way)

    def test_far_apart(self):
        calls = [light(-10000, -10000, 20000, "W5", (1000, 999, 2, 999, 1000, 3)), coast(-10000, 10000, 10000, -9999),
                 light(0, 0, 5000), light(10000, 10000, 20000, "W5", (0, 1, 4, -1, -1, 2))]
        for way in ((-10000, -10000, 1000, 1000, 20), (10000, 10000, -40, -40, 500), (-10000, 10000, 1000, -1000, 20),
                    (-10000, 3, 40, 0, 500), (7, 10000, 0, -40, 500), (10000, 9999, -999, -1000, 19)):
            self.assertEqual(last(*calls, track(*way)), changed(calls, *way), way)


class Refusals(unittest.TestCase):
    def test_the_beginning_is_no_place(self):
        for far in (10001, -10001, 2147483647, -2147483648):
            back = 0 if abs(far) > 10001 else -1 if far > 0 else 1
            self.assertEqual(last(light(), track(far, 0, back, 0, 5)), [-1])
            self.assertEqual(last(light(), track(0, far, 0, back, 5)), [-1])
            self.assertEqual(last(light(), track(far, 0, 0, 0, 0)), [-1])
            self.assertEqual(last(light(), track(0, far, 0, 0, 0)), [-1])

    def test_the_end_is_no_place(self):
        for x, y, u, v, n in ((9990, 0, 1, 0, 11), (0, 9990, 0, 1, 11), (-9990, 0, -1, 0, 11), (0, -9990, 0, -1, 11),
                              (9000, 0, 1000, 0, 2), (0, -9500, 0, -501, 1), (0, 0, 1000, -1000, 11)):
            self.assertEqual(last(light(), track(x, y, u, v, n)), [-1])
            self.assertNotEqual(last(light(), track(x, y, u, v, n - 1)), [-1])

    def test_ends_just_within(self):
        self.assertEqual(last(track(10000, 10000, -1000, -1000, 20)), [0])
        self.assertEqual(last(track(-10000, 10000, 40, -40, 500)), [0])
        self.assertEqual(last(track(-10000, -10000, 0, 0, 500)), [0])

    def test_steps_just_at_1000_and_beyond(self):
        for u, v in ((1000, 0), (-1000, 0), (0, 1000), (0, -1000), (1000, -1000), (-1000, 1000)):
            self.assertEqual(last(track(0, 0, u, v, 1)), [0])
            self.assertEqual(last(track(0, 0, u, v, 0)), [0])
        for far in (1001, -1001, 2147483647, -2147483648):
            for n in (0, 1, 500):
                self.assertEqual(last(light(), track(0, 0, far, 0, n)), [-1])
                self.assertEqual(last(light(), track(0, 0, 0, far, n)), [-1])

    def test_500_and_501_steps(self):
        self.assertEqual(last(light(), track(1, 1, 0, 0, 500)), [1, 0, 0, 1])
        self.assertEqual(last(light(reach=900), track(1, 0, 1, 0, 500)), [1, 0, 0, 1])
        for n in (501, 502, 4294967295):
            self.assertEqual(last(light(), track(1, 1, 0, 0, n)), [-1])
            self.assertEqual(last(light(), track(1, 1, 1, 0, n)), [-1])

    def test_no_lights_any_more(self):
        self.assertEqual(last(light(), clear(), track(1, 1, 1, 0, 5)), [0])


if __name__ == "__main__":
    unittest.main()
