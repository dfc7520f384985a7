"""The call at: what is seen at a time."""

import unittest

from tests.calls import at, coast, last, light, run, seen


class Answers(unittest.TestCase):
    def test_no_lights(self):
        self.assertEqual(last(at(0, 0, 0)), [0])

    def test_of_those_that_are_seen_just_the_white_ones(self):
        calls = [light(text="W5 -5", sectors=(1, 0, 2)), light(text="-5 W5", sectors=(1, 0, 3)), light(9, 0, 1, "W1"),
                 light(text="W600", sectors=(1, 0, 4))]
        self.assertEqual(last(*calls, at(0, 3, 3)), [2, 0, 2, 3, 4])
        self.assertEqual(last(*calls, at(5, 3, 3)), [2, 1, 3, 3, 4])

    def test_what_is_not_seen_is_not_seen_at_a_time(self):
        calls = [light(reach=5), light(0, 1, 50, "W5", (1, 0, 0)), light(20, 0), coast(10, -5, 10, 5), light(6, 0)]
        self.assertEqual(last(*calls, at(0, 6, 0)), [0])

    def test_the_colour_is_that_of_the_sector(self):
        self.assertEqual(last(light(sectors=(1, 0, 2, 0, 1, 3)), at(0, 0, 5)), [1, 0, 3])


class Refusals(unittest.TestCase):
    def test_the_time(self):
        self.assertEqual(last(light(), at(1000000, 1, 1)), [1, 0, 1])
        for time in (1000001, 2000000, 4294967295):
            self.assertEqual(last(light(), at(time, 1, 1)), [-1])

    def test_what_is_no_place(self):
        for far in (10001, -10001, 2147483647, -2147483648):
            self.assertEqual(last(light(), at(0, far, 0)), [-1])
            self.assertEqual(last(light(), at(0, 0, far)), [-1])
            self.assertEqual(last(light(), at(1000001, 0, far)), [-1])

    def test_the_farthest_places(self):
        self.assertEqual(last(light(9999, 10000), at(0, 10000, 10000)), [1, 0, 1])
        self.assertEqual(last(light(-10000, -9999), at(0, -10000, -10000)), [1, 0, 1])


class Times(unittest.TestCase):
    def white_times(self, text, times):
        told = run(light(text=text), *[at(time, 1, 0) for time in times])[1:]
        for answer in told:
            self.assertIn(answer, ([0], [1, 0, 1]))
        return [time for time, answer in zip(times, told) if answer[0]]

    def test_where_a_phase_begins_and_ends(self):
        self.assertEqual(self.white_times("W5 -3", range(20)), [0, 1, 2, 3, 4, 8, 9, 10, 11, 12, 16, 17, 18, 19])

    def test_dark_first(self):
        self.assertEqual(self.white_times("-2 W1", range(9)), [2, 5, 8])

    def test_several_phases(self):
        self.assertEqual(self.white_times("-1 W2 -3 -1 W1 W1", range(19)), [1, 2, 7, 8, 10, 11, 16, 17])

    def test_one_tenth_each(self):
        self.assertEqual(self.white_times("W1 -1", range(7)), [0, 2, 4, 6])

    def test_always_dark_and_always_white(self):
        self.assertEqual(self.white_times("-1", range(4)), [])
        self.assertEqual(self.white_times("-600 -1", [0, 599, 600, 601, 1000000]), [])
        self.assertEqual(self.white_times("W3", range(7)), list(range(7)))

    def test_the_longest_round(self):
        text = " ".join(["W600", "-600"] * 5)
        times = [0, 599, 600, 1199, 1200, 5399, 5400, 5999, 6000, 6599, 6600]
        self.assertEqual(self.white_times(text, times), [0, 599, 1200, 5399, 6000, 6599])

    def test_many_rounds_later(self):
        # 142857 rounds of 7 end at 999999
        times = [999992, 999994, 999995, 999998, 999999, 1000000]
        self.assertEqual(self.white_times("W3 -4", times), [999992, 999994, 999999, 1000000])
        self.assertEqual(self.white_times("W1 -6", times), [999992, 999999])
        self.assertEqual(self.white_times("-6 W1", times), [999998])

    def test_it_is_not_changed_by_being_asked(self):
        told = run(light(text="W5 -5"), at(7, 1, 0), at(2, 1, 0), at(7, 1, 0), seen(1, 0), at(2, 1, 0))
        self.assertEqual(told[1:], [[0], [1, 0, 1], [0], [1, 0, 1], [1, 0, 1]])


if __name__ == "__main__":
    unittest.main()
