"""The call rhythm: its text as it's seen from a place."""

import unittest

from tests.calls import coast, last, light, rhythm, run, told_text


class Texts(unittest.TestCase):
    def test_white_is_told_in_each_colour(self):
        for colour, sign in ((1, "W"), (2, "R"), (3, "G"), (4, "Y")):
            told = last(light(text="W5 -10 W600 -1", sectors=(1, 0, colour)), rhythm(0, 1, 1))
            self.assertEqual(told, told_text(f"{sign}5 -10 {sign}600 -1"))

    def test_phase_by_phase(self):
        for text in ("W1", "-1", "-600", "W9 W10 W99 W100 W101 W599", "-5 -5", "W5 W5 -5", "-20 W7 -3 W400"):
            self.assertEqual(last(light(text=text), rhythm(0, 1, 1)), told_text(text))

    def test_the_bytes(self):
        self.assertEqual(last(light(text="W5 -60", sectors=(1, 0, 4)), rhythm(0, 1, 1)),
                         [6, 89, 53, 32, 45, 54, 48])

    def test_the_longest(self):
        text = " ".join(["W187"] * 31 + ["-203"])
        self.assertEqual(last(light(text=text), rhythm(0, 1, 1)), told_text(text))

    def test_the_sector_counts_in_which_the_place_lies(self):
        lit = light(text="W5 -5", sectors=(1, 0, 2, 0, 1, 3, -1, 0, 4))
        told = run(lit, rhythm(0, 1, 0), rhythm(0, 0, 1), rhythm(0, -1, 0), rhythm(0, 5, 5))[1:]
        self.assertEqual(told, [told_text(text) for text in ("R5 -5", "G5 -5", "Y5 -5", "R5 -5")])

    def test_the_light_itself_stays_white(self):
        told = run(light(text="W5", sectors=(1, 0, 2, -1, 0, 1)), rhythm(0, 1, 0), rhythm(0, -1, 0), rhythm(0, 1, 0))
        self.assertEqual(told[1:], [told_text("R5"), told_text("W5"), told_text("R5")])

    def test_of_several_lights(self):
        lights = [light(text="W1"), light(text="W2", sectors=(1, 0, 2)), light(text="-3 W3")]
        told = run(*lights, rhythm(2, 1, 1), rhythm(0, 1, 1), rhythm(1, 1, 1))[3:]
        self.assertEqual(told, [told_text("-3 W3"), told_text("W1"), told_text("R2")])


class Refusals(unittest.TestCase):
    def test_what_is_no_place(self):
        for far in (10001, -10001, 2147483647, -2147483648):
            self.assertEqual(last(light(), rhythm(0, far, 0)), [-1])
            self.assertEqual(last(light(), rhythm(0, 0, far)), [-1])

    def test_the_farthest_places(self):
        self.assertEqual(last(light(9999, 10000), rhythm(0, 10000, 10000)), told_text("W5"))
        self.assertEqual(last(light(-10000, -9999), rhythm(0, -10000, -10000)), told_text("W5"))

    def test_no_such_light(self):
        self.assertEqual(last(rhythm(0, 0, 0)), [-4])
        for number in (1, 2, 24, 4294967295):
            self.assertEqual(last(light(), rhythm(number, 1, 1)), [-4])
        self.assertEqual(last(light(reach=0), rhythm(0, 1, 1)), [-4])
        self.assertEqual(last(light(), light(), rhythm(1, 1, 1)), told_text("W5"))

    def test_not_seen_from_there(self):
        self.assertEqual(last(light(reach=5), rhythm(0, 6, 0)), [-3])
        self.assertEqual(last(light(), rhythm(0, 0, 0)), [-3])
        self.assertEqual(last(light(sectors=(1, 0, 0)), rhythm(0, 1, 0)), [-3])
        self.assertEqual(last(light(), coast(1, 1, 1, -1), rhythm(0, 2, 0)), [-3])

    def test_their_order(self):
        self.assertEqual(last(light(), rhythm(1, 10001, 0)), [-1])
        self.assertEqual(last(light(), rhythm(0, 10001, 0)), [-1])
        self.assertEqual(last(light(reach=1), rhythm(1, 50, 50)), [-4])


if __name__ == "__main__":
    unittest.main()
