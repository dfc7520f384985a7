"""The call tell: the light to look for next, how many places each of its colours leaves, and its refusals."""

import unittest

from tests.calls import WRONG_FIELDS, WRONG_TOLD, clear, coast, last, light, run, tell, where

QUARTERS = (1, 0, 1, 0, 1, 2, -1, 0, 3, 0, -1, 4)
HALVES = (1, 0, 1, -1, 0, 2)


def chosen(setup, field, told):
    """What tell is to answer, by how many where counts if one more light and colour is told."""
    lights = len([call for call in setup if call[0] == 0])
    asked = [where(*field, (*told, number, colour)) for number in range(lights) for colour in range(5)]
    counts = [answer[0] for answer in run(*setup, *asked)[len(setup):]]
    tables = [counts[number * 5:number * 5 + 5] for number in range(lights)]
    best = min(range(lights), key=lambda number: (max(tables[number]), number))
    return [best, *tables[best]] if sum(tables[best]) else [-3]


class Counts(unittest.TestCase):
    def test_how_many_have_each_colour(self):
        self.assertEqual(last(light(0, 0, 100, "W5", QUARTERS), tell(-5, -3, 5, 3)), [0, 1, 20, 18, 20, 18])
        self.assertEqual(last(light(0, 0, 5), tell(0, 0, 9, 9)), [0, 75, 25, 0, 0, 0])
        self.assertEqual(last(light(0, 0, 100, "W5", (1, 0, 4)), tell(1, 1, 3, 3)), [0, 0, 0, 0, 0, 9])
        self.assertEqual(last(light(0, 0, 100, "W5", (1, 0, 3)), tell(1, 1, 3, 3)), [0, 0, 0, 0, 9, 0])
        self.assertEqual(last(light(0, 0, 100, "W5", (1, 0, 2)), tell(1, 1, 3, 3)), [0, 0, 0, 9, 0, 0])

    def test_one_place(self):
        self.assertEqual(last(light(), tell(1, 1, 1, 1)), [0, 0, 1, 0, 0, 0])
        self.assertEqual(last(light(), tell(0, 0, 0, 0)), [0, 1, 0, 0, 0, 0])

    def test_just_the_places_that_are_left(self):
        lights = [light(0, 0, 5), light(4, 0, 100, "W5", QUARTERS)]
        self.assertEqual(last(*lights, tell(-5, 0, 5, 0)), [1, 1, 1, 0, 9, 0])
        self.assertEqual(last(*lights, tell(-5, 0, 5, 0, (0, 1))), [1, 1, 1, 0, 8, 0])
        self.assertEqual(last(*lights, tell(-5, 0, 5, 0, (1, 3))), [0, 1, 8, 0, 0, 0])
        self.assertEqual(last(*lights, tell(-5, 0, 5, 0, (0, 0))), [0, 1, 0, 0, 0, 0])

    def test_what_a_coast_hides_counts_as_nothing(self):
        calls = [light(0, 0), coast(3, -1, 3, 1)]
        self.assertEqual(last(*calls, tell(1, 0, 9, 3)), [0, 19, 17, 0, 0, 0])

    def test_1024_places(self):
        for width, height in ((32, 32), (1024, 1), (1, 1024)):
            self.assertEqual(last(light(0, 0, 5000), tell(0, 0, width - 1, height - 1)), [0, 1, 1023, 0, 0, 0])


class Chosen(unittest.TestCase):
    all_alike = light(0, 0, 100)
    halved = light(0, -1, 100, "W5", HALVES)
    quartered = light(0, 0, 100, "W5", QUARTERS)

    def test_whose_greatest_number_is_least(self):
        field = (-5, -5, 5, 5)
        for lights, best in (((self.all_alike, self.halved, self.quartered), 2),
                             ((self.quartered, self.halved, self.all_alike), 0),
                             ((self.all_alike, self.quartered, self.halved), 1), ((self.all_alike, self.halved), 1),
                             ((self.halved, self.all_alike), 0)):
            self.assertEqual(last(*lights, tell(*field))[0], best)
            self.assertEqual(last(*lights, tell(*field)), chosen(lights, field, ()))

    def test_of_such_the_first(self):
        self.assertEqual(last(self.quartered, self.quartered, tell(-5, -3, 5, 3))[0], 0)
        self.assertEqual(last(self.all_alike, self.quartered, self.quartered, tell(-5, -3, 5, 3))[0], 1)
        # the same greatest number, of another colour and beside others
        red = light(0, 0, 100, "W5", (1, 0, 2))
        self.assertEqual(last(red, self.all_alike, tell(1, 1, 3, 3)), [0, 0, 0, 9, 0, 0])
        self.assertEqual(last(self.all_alike, red, tell(1, 1, 3, 3)), [0, 0, 9, 0, 0, 0])
        uneven = light(0, 0, 100, "W5", (1, 0, 1, 1, 1, 2, 1, 2, 3))
        even = light(0, 0, 100, "W5", (1, 0, 1, 1, 1, 4))
        self.assertEqual(last(uneven, even, tell(1, 1, 1, 2)), [0, 0, 0, 1, 1, 0])
        self.assertEqual(last(even, uneven, tell(1, 0, 1, 3)), [1, 0, 1, 1, 2, 0])
        self.assertEqual(last(uneven, even, tell(2, 1, 2, 2)), [0, 0, 1, 1, 0, 0])
        self.assertEqual(last(even, uneven, tell(2, 1, 2, 2)), [0, 0, 1, 0, 0, 1])

    def test_nothing_as_the_greatest_number(self):
        hardly_seen = light(0, 0, 1)
        self.assertEqual(last(hardly_seen, self.quartered, tell(-5, -3, 5, 3))[0], 1)
        self.assertEqual(last(hardly_seen, light(1, 1, 2), tell(0, 0, 9, 9)), [1, 90, 10, 0, 0, 0])
        self.assertEqual(last(light(9, 9, 1), light(90, 90, 1), light(0, 0, 5), tell(0, 0, 3, 0)), [2, 1, 3, 0, 0, 0])
        self.assertEqual(last(light(90, 90, 1), light(80, 90, 1), tell(0, 0, 3, 3)), [0, 16, 0, 0, 0, 0])

    def test_the_places_that_are_left_choose(self):
        lights = (self.quartered, light(3, 3, 100, "W5", HALVES), light(-20, -20, 100, "W5", (1, 0, 3, 1, 1, 4)))
        field = (-5, -5, 5, 5)
        for told in ((), (0, 1), (0, 2), (0, 1, 1, 1), (0, 3), (1, 2), (1, 0), (2, 4), (2, 3, 0, 1), (0, 0)):
            self.assertEqual(last(*lights, tell(*field, told)), chosen(lights, field, told), told)

    def test_a_light_that_is_told_leaves_but_one_colour(self):
        self.assertEqual(last(self.quartered, self.halved, tell(-5, -5, 5, 5, (0, 1)))[0], 0)
        self.assertEqual(last(self.quartered, self.halved, tell(-5, -5, 5, 5, (0, 1, 0, 1)))[0], 0)
        self.assertEqual(last(self.quartered, light(2, 2, 100, "W5", HALVES), tell(-5, -5, 5, 5, (0, 1)))[0], 1)

    def test_as_where_counts(self):
        calls = [light(3, 4, 9, "W5", QUARTERS), light(12, 2, 12, "W5", (2, 1, 3, -1, 3, 0, -2, -1, 1)),
                 light(7, -3, 14, "W5", HALVES), coast(0, 0, 6, 2), coast(5, 5, 5, 9), coast(8, 0, 9, 9),
                 coast(10, 8, 14, 8), coast(6, 4, 8, 4)]
        for field in ((-8, -8, 20, 20), (-8, 3, 20, 5), (4, -8, 6, 20), (-60, 4, 60, 4), (3, -60, 3, 60)):
            for told in ((), (0, 1), (0, 2), (0, 0), (1, 3), (1, 0), (2, 1), (2, 0, 1, 0)):
                self.assertEqual(last(*calls, tell(*field, told)), chosen(calls, field, told), (field, told))

    def test_whatever_is_seen_no_more_are_left(self):
        lights = (self.quartered, light(3, 3, 7, "W5", HALVES), light(-20, -20, 29, "W5", (1, 0, 3, 1, 1, 4)))
        best, *counts = last(*lights, tell(-6, -6, 6, 6, (1, 0)))
        left = [last(*lights, where(-6, -6, 6, 6, (1, 0, best, colour)))[0] for colour in range(5)]
        self.assertEqual(left, counts)
        self.assertEqual(sum(counts), last(*lights, where(-6, -6, 6, 6, (1, 0)))[0])


class Refusals(unittest.TestCase):
    def test_what_where_refuses(self):
        for field in WRONG_FIELDS:
            self.assertEqual(last(light(), tell(*field)), [-1])
            self.assertEqual(last(tell(*field)), [-1])
        for told in WRONG_TOLD:
            self.assertEqual(last(light(), tell(0, 0, 3, 3, told)), [-1])
            self.assertEqual(last(tell(0, 0, 3, 3, told)), [-1])
        for number in (1, 24, 4294967295):
            self.assertEqual(last(light(), tell(0, 0, 3, 3, (number, 0))), [-4])
            self.assertEqual(last(light(), tell(0, 0, 3, 3, (0, 1, number, 4))), [-4])
        self.assertEqual(last(light(), tell(0, 0, 3, 3, (0, 1) * 24)), [0, 0, 15, 0, 0, 0])

    def test_no_such_places(self):
        for told in ((0, 2), (0, 1, 0, 0), (0, 0, 0, 1), (0, 4)):
            self.assertEqual(last(light(), tell(0, 0, 3, 3, told)), [-3])
        self.assertEqual(last(light(), tell(0, 0, 0, 0, (0, 1))), [-3])
        self.assertEqual(last(light(), coast(0, 0, 0, 1), tell(0, 0, 3, 3, (0, 1))), [-3])

    def test_no_lights(self):
        self.assertEqual(last(tell(0, 0, 3, 3)), [-3])
        self.assertEqual(last(coast(0, 0, 1, 1), tell(0, 0, 3, 3)), [-3])
        self.assertEqual(last(light(), clear(), tell(0, 0, 3, 3)), [-3])

    def test_their_order(self):
        for field in WRONG_FIELDS:
            self.assertEqual(last(tell(*field, (0, 0))), [-1])
            self.assertEqual(last(light(), tell(*field, (0, 0, 0, 1))), [-1])
        for told in WRONG_TOLD:
            self.assertEqual(last(light(), tell(0, 0, 3, 3, (7, 0, *told))), [-1])
            self.assertEqual(last(light(), tell(0, 0, 3, 3, (0, 0, 0, 1, *told))), [-1])
        self.assertEqual(last(tell(0, 0, 3, 3, (0, 0))), [-4])
        self.assertEqual(last(light(), tell(0, 0, 3, 3, (0, 0, 0, 1, 1, 0))), [-4])
        self.assertEqual(last(light(), tell(0, 0, 3, 3, (1, 0, 0, 0, 0, 1))), [-4])


if __name__ == "__main__":
    unittest.main()
