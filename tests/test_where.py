"""The call where: which places are counted, the first and the last of them, and its refusals."""

import unittest

from tests.calls import WRONG_FIELDS, WRONG_TOLD, clear, coast, colours_seen, last, light, run, where

QUARTERS = (1, 0, 1, 0, 1, 2, -1, 0, 3, 0, -1, 4)
# white along two opposite directions alone, as far as small fields go
FALLING_LINE = (1, 0, 0, -1, 1, 1, -1000, 999, 0, 1, -1, 1, 1000, -999, 0)
RISING_LINE = (1, 1, 1, 999, 1000, 0, -1, -1, 1, -999, -1000, 0)


def counted(setup, field, told):
    """What where is to answer, place by place by what seen tells."""
    x, y, u, v = field
    places = [(column, row) for row in range(y, v + 1) for column in range(x, u + 1)]
    lights = len([call for call in setup if call[0] == 0])
    pairs = list(zip(told[::2], told[1::2]))
    kept = [place for place, colours in zip(places, colours_seen(setup, places, lights))
            if all(colours[number] == colour for number, colour in pairs)]
    return [len(kept), *kept[0], *kept[-1]] if kept else [0]


class Fields(unittest.TestCase):
    """Nothing is told, so all places count."""

    def test_all_places(self):
        self.assertEqual(last(where(0, 0, 3, 2)), [12, 0, 0, 3, 2])
        self.assertEqual(last(light(1, 1), coast(0, 0, 3, 2), where(0, 0, 3, 2)), [12, 0, 0, 3, 2])
        self.assertEqual(last(where(-7, -9, -5, 4)), [42, -7, -9, -5, 4])

    def test_one_place(self):
        self.assertEqual(last(where(0, 0, 0, 0)), [1, 0, 0, 0, 0])
        self.assertEqual(last(where(-3, 8, -3, 8)), [1, -3, 8, -3, 8])

    def test_one_row_and_one_column(self):
        self.assertEqual(last(where(-2, 5, 4, 5)), [7, -2, 5, 4, 5])
        self.assertEqual(last(where(5, -2, 5, 4)), [7, 5, -2, 5, 4])

    def test_1024_places(self):
        for width, height in ((1024, 1), (1, 1024), (32, 32), (2, 512), (512, 2), (4, 256), (64, 16)):
            self.assertEqual(last(where(-5, 7, width - 6, height + 6)), [1024, -5, 7, width - 6, height + 6])

    def test_the_farthest_places(self):
        self.assertEqual(last(where(9999, 9998, 10000, 10000)), [6, 9999, 9998, 10000, 10000])
        self.assertEqual(last(where(-10000, -10000, -9999, -9998)), [6, -10000, -10000, -9999, -9998])
        self.assertEqual(last(where(10000, -10000, 10000, -10000)), [1, 10000, -10000, 10000, -10000])


class FirstAndLast(unittest.TestCase):
    def test_by_y_then_x(self):
        # from these fields the line is seen at its places but the light's own
        for x, y, u, v in ((0, 0, 4, 4), (0, 0, 40, 4), (0, 0, 4, 40)):
            self.assertEqual(last(light(2, 2, 9, "W5", FALLING_LINE), where(x, y, u, v, (0, 1))), [4, 4, 0, 0, 4])

    def test_in_one_row_by_x(self):
        for field in ((0, 0, 9, 9), (0, 0, 9, 20), (0, 0, 20, 9)):
            self.assertEqual(last(light(5, 0, 2), where(*field, (0, 1))), [8, 3, 0, 5, 2])
        for field in ((0, 0, 9, 9), (0, -20, 9, 9), (-20, 0, 9, 9)):
            self.assertEqual(last(light(5, 9, 2), where(*field, (0, 1))), [8, 5, 7, 7, 9])

    def test_a_rising_line(self):
        for x, y, u, v in ((0, 0, 4, 4), (0, 0, 40, 4), (0, 0, 4, 40)):
            self.assertEqual(last(light(2, 2, 9, "W5", RISING_LINE), where(x, y, u, v, (0, 1))), [4, 0, 0, 4, 4])

    def test_one_place_is_both(self):
        self.assertEqual(last(light(0, 0, 1), where(1, -3, 3, 3, (0, 1))), [1, 1, 0, 1, 0])

    def test_none_is_told_by_0_alone(self):
        self.assertEqual(last(light(0, 0, 1), where(2, 2, 5, 5, (0, 1))), [0])
        self.assertEqual(last(light(0, 0, 9), where(1, 1, 2, 2, (0, 0))), [0])
        self.assertEqual(last(light(0, 0, 9), where(1, 1, 2, 2, (0, 2))), [0])


class Told(unittest.TestCase):
    def test_the_range_cuts_the_field(self):
        # in range are (0, 5), (3, 4), (4, 3), (5, 0), all within them, and the light's own place is not
        self.assertEqual(last(light(0, 0, 5), where(0, 0, 9, 9, (0, 1))), [25, 1, 0, 0, 5])
        self.assertEqual(last(light(0, 0, 5), where(0, 0, 9, 9, (0, 0))), [75, 0, 0, 9, 9])

    def test_a_light_in_the_field_is_not_seen_at_its_own_place(self):
        self.assertEqual(last(light(3, 3), where(0, 0, 6, 6, (0, 1))), [48, 0, 0, 6, 6])
        self.assertEqual(last(light(3, 3), where(0, 0, 6, 6, (0, 0))), [1, 3, 3, 3, 3])
        self.assertEqual(last(light(0, 0), where(0, 0, 2, 2, (0, 1))), [8, 1, 0, 2, 2])
        self.assertEqual(last(light(2, 2), where(0, 0, 2, 2, (0, 1))), [8, 0, 0, 1, 2])

    def test_borders_cut_the_field(self):
        lit = light(0, 0, 100, "W5", QUARTERS)
        for colour, answer in ((1, [20, 1, 0, 5, 3]), (2, [18, 0, 1, -5, 3]), (3, [20, -5, -3, -1, 0]),
                               (4, [18, 0, -3, 5, -1]), (0, [1, 0, 0, 0, 0])):
            told = last(lit, where(-5, -3, 5, 3, (0, colour)))
            self.assertEqual(told[0], answer[0], colour)
            self.assertEqual(told, counted([lit], (-5, -3, 5, 3), (0, colour)))

    def test_a_border_alone(self):
        lit = light(0, 0, 100, "W5", QUARTERS)
        self.assertEqual(last(lit, where(0, 1, 0, 9, (0, 2))), [9, 0, 1, 0, 9])
        self.assertEqual(last(lit, where(-9, 0, -1, 0, (0, 3))), [9, -9, 0, -1, 0])
        self.assertEqual(last(lit, where(0, -9, 0, -1, (0, 4))), [9, 0, -9, 0, -1])
        self.assertEqual(last(lit, where(1, 0, 9, 0, (0, 1))), [9, 1, 0, 9, 0])

    def test_a_sector_of_nothing(self):
        lit = light(0, 0, 100, "W5", (1, 0, 0, 0, 1, 3))
        self.assertEqual(last(lit, where(-2, 1, 2, 3, (0, 0))), [6, 1, 1, 2, 3])
        self.assertEqual(last(lit, where(-2, 1, 2, 3, (0, 3))), [9, -2, 1, 0, 3])

    def test_a_coast_crosses_the_field(self):
        calls = [light(0, 0), coast(3, -1, 3, 1)]
        # behind it, of the row y, are hidden the x from 3 and from 3 times as much as y on
        self.assertEqual(last(*calls, where(1, 0, 9, 3, (0, 0))), [7 + 7 + 4 + 1, 3, 0, 9, 3])
        self.assertEqual(last(*calls, where(1, 0, 9, 3, (0, 1))), [2 + 2 + 5 + 8, 1, 0, 8, 3])
        self.assertEqual(last(*calls, where(3, -1, 3, 1, (0, 0))), [3, 3, -1, 3, 1])

    def test_a_coast_through_the_light_hides_it_everywhere(self):
        for ends in ((-1, -1, 1, 1), (0, 0, 0, 5), (2, 2, -7, -7)):
            self.assertEqual(last(light(0, 0), coast(*ends), where(-9, -9, 9, 9, (0, 1))), [0])
            self.assertEqual(last(light(0, 0), coast(*ends), where(-9, -9, 9, 9, (0, 0))), [361, -9, -9, 9, 9])

    def test_a_coast_in_line_with_the_light_hides_its_line_alone(self):
        for ends in ((2, 2, 4, 4), (4, 4, 2, 2)):
            calls = [light(0, 0), coast(*ends)]
            self.assertEqual(last(*calls, where(-5, -5, 5, 5, (0, 0))), [5, 0, 0, 5, 5])
            self.assertEqual(last(*calls, where(1, 1, 9, 9, (0, 0))), [8, 2, 2, 9, 9])
        self.assertEqual(last(light(0, 0), coast(-9, 0, -6, 0), where(-20, 0, 20, 0, (0, 0))), [16, -20, 0, 0, 0])
        self.assertEqual(last(light(0, 0), coast(0, 6, 0, 9), where(0, -20, 0, 20, (0, 0))), [16, 0, 0, 0, 20])

    def test_all_that_is_told_must_be_so(self):
        lights = [light(0, 0, 5), light(4, 0, 5, "W5", (1, 0, 2)), light(2, 9, 8, "W5", (1, 0, 3))]
        for told in ((0, 1), (0, 1, 1, 2), (0, 1, 1, 0), (0, 0, 1, 2), (0, 1, 1, 2, 2, 3), (2, 0, 1, 2, 0, 1),
                     (0, 0, 1, 0, 2, 0), (1, 1), (2, 3, 1, 2), (0, 1, 1, 2, 2, 4)):
            self.assertEqual(last(*lights, where(-6, -6, 10, 10, told)), counted(lights, (-6, -6, 10, 10), told))
        self.assertEqual(last(*lights, where(-6, 0, 10, 0, (0, 1, 1, 2))), [5, -1, 0, 5, 0])

    def test_the_order_in_which_it_is_told_is_all_one(self):
        lights = [light(0, 0, 5), light(4, 0, 5, "W5", (1, 0, 2))]
        self.assertEqual(last(*lights, where(-6, -6, 10, 10, (0, 1, 1, 2))),
                         last(*lights, where(-6, -6, 10, 10, (1, 2, 0, 1))))

    def test_a_light_told_twice(self):
        lit = light(0, 0, 5)
        once = last(lit, where(0, 0, 9, 9, (0, 1)))
        self.assertEqual(last(lit, where(0, 0, 9, 9, (0, 1, 0, 1))), once)
        self.assertEqual(last(lit, where(0, 0, 9, 9, (0, 1) * 24)), once)
        self.assertEqual(last(lit, where(0, 0, 9, 9, (0, 1, 0, 0))), [0])
        self.assertEqual(last(lit, where(0, 0, 9, 9, (0, 0, 0, 1))), [0])
        self.assertEqual(last(lit, where(0, 0, 9, 9, (0, 1, 0, 2))), [0])

    def test_far_apart(self):
        calls = [light(-10000, -10000, 20000, "W5", (1000, 999, 2, 999, 1000, 3)), coast(-10000, 10000, 10000, -9999)]
        for field in ((3990, 3980, 4010, 4000), (-30, -30, 1, 1), (-5, -5, 26, 26), (-9, 0, 300, 2)):
            for colour in range(4):
                told = last(*calls, where(*field, (0, colour)))
                self.assertEqual(told, counted(calls, field, (0, colour)), (field, colour))

    def test_each_place_is_as_seen_tells(self):
        calls = [light(3, 4, 9, "W5", QUARTERS), light(12, 2, 12, "W5", (2, 1, 3, -1, 3, 0, -2, -1, 1)),
                 coast(0, 0, 6, 2), coast(5, 5, 5, 9), coast(8, 0, 9, 9), coast(10, 8, 14, 8), coast(6, 4, 8, 4)]
        for field in ((-8, -8, 20, 20), (-8, 3, 20, 5), (4, -8, 6, 20), (-60, 4, 60, 4), (3, -60, 3, 60)):
            for told in ((0, 1), (0, 2), (0, 3), (0, 4), (0, 0), (1, 3), (1, 1), (1, 0), (0, 1, 1, 3), (0, 0, 1, 1)):
                self.assertEqual(last(*calls, where(*field, told)), counted(calls, field, told), (field, told))


class Refusals(unittest.TestCase):
    def test_a_corner_that_is_no_place(self):
        for far in (10001, 2147483647):
            self.assertEqual(last(where(10000, 0, far, 0)), [-1])
            self.assertEqual(last(where(0, 10000, 0, far)), [-1])
            self.assertEqual(last(where(far, 0, far, 0)), [-1])
            self.assertEqual(last(where(0, far, 0, far)), [-1])
        for far in (-10001, -2147483648):
            self.assertEqual(last(where(far, 0, -10000, 0)), [-1])
            self.assertEqual(last(where(0, far, 0, -10000)), [-1])
            self.assertEqual(last(where(far, 0, far, 0)), [-1])
            self.assertEqual(last(where(0, far, 0, far)), [-1])

    def test_corners_the_wrong_way_round(self):
        for x, y, u, v in ((1, 0, 0, 0), (0, 1, 0, 0), (1, 1, 0, 0), (5, 5, 3, 3), (2, 2, 0, 9), (2, 2, 9, 0),
                           (10000, 10000, -10000, -10000), (0, 0, -1, 5), (0, 0, -2, -2)):
            self.assertEqual(last(where(x, y, u, v)), [-1])

    def test_more_than_1024_places(self):
        for width, height in ((1025, 1), (1, 1025), (33, 32), (32, 33), (25, 41), (41, 25), (513, 2), (10000, 10000)):
            self.assertEqual(last(where(0, 0, width - 1, height - 1)), [-1])
        self.assertEqual(last(where(-10000, -10000, 10000, 10000)), [-1])

    def test_not_in_twos(self):
        for told in ((0,), (0, 1, 0), (0, 1) * 23 + (0,), (0, 1) * 24 + (0,), (0,) * 3999):
            self.assertEqual(last(light(), where(0, 0, 3, 3, told)), [-1])
            self.assertEqual(last(where(0, 0, 3, 3, told)), [-1])

    def test_24_and_25_pairs(self):
        lights = [light(number, 50) for number in range(24)]
        each = [number for pair in enumerate([1] * 24) for number in pair]
        self.assertEqual(last(*lights, where(0, 0, 3, 3, each)), [16, 0, 0, 3, 3])
        self.assertEqual(last(*lights, where(0, 0, 3, 3, [*each, 0, 1])), [-1])
        self.assertEqual(last(light(9, 9), where(0, 0, 3, 3, (0, 1) * 24)), [16, 0, 0, 3, 3])
        for pairs in (25, 26, 48, 2000):
            self.assertEqual(last(light(9, 9), where(0, 0, 3, 3, (0, 1) * pairs)), [-1])

    def test_colours(self):
        for colour in range(5):
            self.assertGreaterEqual(last(light(), where(0, 0, 3, 3, (0, colour)))[0], 0)
        for colour in (5, 6, 87, 4294967295):
            self.assertEqual(last(light(), where(0, 0, 3, 3, (0, colour))), [-1])
            self.assertEqual(last(light(), where(0, 0, 3, 3, (0, 1, 0, colour))), [-1])
            self.assertEqual(last(light(), where(0, 0, 3, 3, (0, colour, 0, 1))), [-1])

    def test_no_such_light(self):
        self.assertEqual(last(where(0, 0, 3, 3, (0, 0))), [-4])
        for number in (1, 2, 24, 4294967295):
            self.assertEqual(last(light(), where(0, 0, 3, 3, (number, 0))), [-4])
            self.assertEqual(last(light(), where(0, 0, 3, 3, (0, 1, number, 0))), [-4])
            self.assertEqual(last(light(), where(0, 0, 3, 3, (number, 1, 0, 1))), [-4])
        self.assertEqual(last(light(reach=0), where(0, 0, 3, 3, (0, 0))), [-4])
        self.assertEqual(last(light(), clear(), where(0, 0, 3, 3, (0, 0))), [-4])

    def test_no_such_light_although_nothing_is_left_before_it(self):
        self.assertEqual(last(light(), where(1, 1, 3, 3, (0, 0, 1, 0))), [-4])

    def test_their_order(self):
        for field in WRONG_FIELDS:
            self.assertEqual(last(light(), where(*field, (7, 0))), [-1])
        for told in WRONG_TOLD:
            self.assertEqual(last(light(), where(0, 0, 3, 3, (7, 0, *told))), [-1])
            self.assertEqual(last(where(0, 0, 3, 3, told)), [-1])
        self.assertEqual(last(light(), where(0, 0, 3, 3, (7, 5))), [-1])
        self.assertEqual(run(light(), where(0, 0, 31, 31, (7, 4))), [[0], [-4]])


if __name__ == "__main__":
    unittest.main()
