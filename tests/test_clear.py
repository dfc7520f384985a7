"""The call clear: no lights and no coasts are left."""

import unittest

from tests.calls import at, clear, coast, last, light, rhythm, run, seen, tell, told_text, track, where


class Cleared(unittest.TestCase):
    def test_its_answer(self):
        self.assertEqual(run(clear()), [[0]])
        self.assertEqual(run(light(), light(), coast(0, 0, 1, 1), clear(), clear())[3:], [[0], [0]])

    def test_no_lights(self):
        told = run(light(), light(3, 3), clear(), seen(1, 1), at(0, 1, 1), where(0, 0, 2, 1), track(1, 1, 1, 0, 9),
                   tell(0, 0, 2, 1))
        self.assertEqual(told[3:], [[0], [0], [6, 0, 0, 2, 1], [0], [-3]])

    def test_the_lights_that_were_are_none(self):
        for asked in (rhythm(0, 1, 1), where(0, 0, 2, 2, (0, 0)), tell(0, 0, 2, 2, (0, 1))):
            self.assertEqual(last(light(), clear(), asked), [-4])
        for asked in (rhythm(1, 1, 1), where(0, 0, 2, 2, (1, 0)), tell(0, 0, 2, 2, (1, 1))):
            self.assertEqual(last(light(), light(), clear(), light(), asked), [-4])

    def test_no_coasts(self):
        self.assertEqual(last(light(), coast(1, -5, 1, 5), clear(), light(), seen(2, 0)), [1, 0, 1])
        self.assertEqual(last(coast(1, -5, 1, 5), clear(), light(), where(0, 0, 2, 0, (0, 1))), [2, 1, 0, 2, 0])

    def test_numbers_from_nought_on_anew(self):
        told = run(light(), light(), coast(0, 9, 1, 9), coast(0, 8, 1, 8), clear(), light(), coast(5, 9, 6, 9), light(),
                   coast(5, 8, 6, 8))
        self.assertEqual(told[5:], [[0], [1], [1], [2]])

    def test_24_lights_and_64_coasts_anew(self):
        lights = [light(number, 0) for number in range(25)]
        coasts = [coast(number, 50, number, 60) for number in range(65)]
        answers = [[number] for number in range(24)] + [[-5]] + [[number] for number in range(1, 65)] + [[-5]]
        self.assertEqual(run(*lights, *coasts, clear(), *lights, *coasts), [*answers, [0], *answers])

    def test_what_comes_then_is_as_on_a_new_chart(self):
        before = [light(0, 0, 50, "-7", (0, 1, 3)), light(9, 9), coast(-3, 3, 3, 3), seen(1, 5)]
        calls = [light(0, 0, 5, "W5 -5", (1, 0, 2)), coast(2, -1, 2, 1), seen(1, 1), seen(4, 0), at(3, 1, 1),
                 rhythm(0, 1, 1), where(-5, -5, 5, 5, (0, 2)), track(-5, 0, 1, 0, 10), tell(-5, -5, 5, 5)]
        self.assertEqual(run(*before, clear(), *calls)[len(before) + 1:], run(*calls))
        self.assertEqual(run(*calls)[5], told_text("R5 -5"))

    def test_refused_calls_before_it_leave_nothing(self):
        told = run(light(reach=0), coast(0, 0, 0, 0), clear(), light(), coast(0, 0, 1, 1))
        self.assertEqual(told, [[-1], [-1], [0], [0], [1]])


if __name__ == "__main__":
    unittest.main()
