"""The call coast: how many there are, and its refusals."""

import unittest

from tests.calls import coast, last, light, run, seen


class Coasts(unittest.TestCase):
    def test_how_many_there_are(self):
        self.assertEqual(run(coast(0, 0, 1, 1), coast(5, 5, -5, 5), coast(1, 1, 0, 0)), [[1], [2], [3]])

    def test_the_same_one_counts_again(self):
        self.assertEqual(run(coast(0, 0, 1, 1), coast(0, 0, 1, 1)), [[1], [2]])

    def test_the_farthest_places(self):
        self.assertEqual(last(coast(-10000, -10000, 10000, 10000)), [1])
        self.assertEqual(last(coast(10000, -10000, -10000, 10000)), [1])

    def test_what_is_no_place(self):
        for far in (10001, -10001, 2147483647, -2147483648):
            for position in range(4):
                ends = [1, 2, 3, 4]
                ends[position] = far
                self.assertEqual(last(coast(*ends)), [-1])

    def test_both_no_place_and_both_the_same(self):
        self.assertEqual(last(coast(10001, 0, 10001, 0)), [-1])

    def test_from_a_place_to_itself(self):
        self.assertEqual(last(coast(0, 0, 0, 0)), [-1])
        self.assertEqual(last(coast(-7, 9, -7, 9)), [-1])

    def test_one_number_alike_is_a_coast(self):
        self.assertEqual(run(coast(4, 4, 4, 5), coast(4, 4, 5, 4)), [[1], [2]])

    def test_the_64th_and_the_65th(self):
        told = run(*[coast(number, 0, number, 1) for number in range(66)])
        self.assertEqual(told, [[number] for number in range(1, 65)] + [[-5], [-5]])

    def test_what_is_no_coast_comes_before_how_many(self):
        full = [coast(number, 0, number, 1) for number in range(64)]
        self.assertEqual(last(*full, coast(0, 10001, 0, 0)), [-1])
        self.assertEqual(last(*full, coast(3, 3, 3, 3)), [-1])

    def test_a_refused_coast_does_not_count(self):
        self.assertEqual(run(coast(0, 0, 0, 0), coast(0, 0, 0, 1), coast(0, 0, 10001, 1), coast(0, 0, 0, 1)),
                         [[-1], [1], [-1], [2]])

    def test_the_65th_hides_nothing(self):
        full = [coast(number, 50, number, 51) for number in range(64)]
        self.assertEqual(last(light(), *full, coast(2, -5, 2, 5), seen(4, 0)), [1, 0, 1])

    def test_the_64th_hides(self):
        full = [coast(number, 50, number, 51) for number in range(63)]
        self.assertEqual(last(light(), *full, coast(2, -5, 2, 5), seen(4, 0)), [0])


if __name__ == "__main__":
    unittest.main()
