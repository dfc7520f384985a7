"""The call light: its number, its refusals and their order."""

import unittest

from tests.calls import at, coast, last, light, rhythm, run, seen, told_text

LONG_PHASES = ["W600"] * 10
TWELVE_SECTORS = [(5, 0), (5, 1), (1, 1), (0, 1), (-1, 1), (-1, 0), (-3, -1), (-1, -1), (0, -1), (1, -2), (1, -1), (9, -1)]


def sectors(*directions):
    return [number for x, y in directions for number in (x, y, 1)]


class Numbers(unittest.TestCase):
    def test_from_nought_on(self):
        self.assertEqual(run(light(), light(), light(5, 5)), [[0], [1], [2]])

    def test_a_refused_light_takes_no_number(self):
        self.assertEqual(run(light(), light(reach=0), light(text=""), light()), [[0], [-1], [-6, 0], [1]])

    def test_the_24th_and_the_25th(self):
        told = run(*[light() for number in range(26)])
        self.assertEqual(told, [[number] for number in range(24)] + [[-5], [-5]])

    def test_several_may_stand_at_one_place(self):
        self.assertEqual(run(light(3, 3), light(3, 3), seen(4, 4)), [[0], [1], [2, 0, 1, 1, 1]])


class Places(unittest.TestCase):
    def test_the_farthest_places(self):
        for x, y in ((10000, 10000), (-10000, -10000), (10000, -10000), (0, 0)):
            self.assertEqual(last(light(x, y)), [0])

    def test_beyond_them(self):
        for far in (10001, -10001, 2147483647, -2147483648):
            self.assertEqual(last(light(far, 0)), [-1])
            self.assertEqual(last(light(0, far)), [-1])


class Ranges(unittest.TestCase):
    def test_the_shortest_and_the_longest(self):
        self.assertEqual(last(light(reach=1)), [0])
        self.assertEqual(last(light(reach=20000)), [0])

    def test_what_is_no_range(self):
        for reach in (0, 20001, 4294967295):
            self.assertEqual(last(light(reach=reach)), [-1])


class Sectors(unittest.TestCase):
    def accepts(self, numbers):
        self.assertEqual(last(light(sectors=numbers)), [0], numbers)

    def refuses(self, numbers):
        self.assertEqual(last(light(sectors=numbers)), [-1], numbers)

    def test_one_sector_in_any_direction(self):
        for x, y in TWELVE_SECTORS:
            self.accepts(sectors((x, y)))

    def test_none(self):
        self.refuses([])

    def test_twelve_and_thirteen(self):
        self.accepts(sectors(*TWELVE_SECTORS))
        self.refuses(sectors(*TWELVE_SECTORS, (99, -1)))

    def test_very_many(self):
        self.refuses(sectors(*[(1000 - number, number) for number in range(1000)]))

    def test_not_in_threes(self):
        for numbers in ([1], [1, 0], [1, 0, 1, 0], [1, 0, 1, 0, 1], sectors(*TWELVE_SECTORS) + [1]):
            self.refuses(numbers)

    def test_directions_that_there_are(self):
        for x, y in ((1000, 1000), (-1000, -1000), (1000, 0), (0, -1000), (-1000, 1000)):
            self.accepts(sectors((x, y)))

    def test_directions_that_there_are_not(self):
        for x, y in ((0, 0), (1001, 0), (-1001, 0), (0, 1001), (0, -1001), (2147483647, 1), (1, -2147483648)):
            self.refuses(sectors((x, y)))
            self.refuses(sectors((1, 0), (x, y)))

    def test_colours(self):
        for colour in range(5):
            self.accepts([1, 0, colour])
        for colour in (-1, 5, 87, 2147483647, -2147483648):
            self.refuses([1, 0, colour])
            self.refuses([1, 0, 1, 0, 1, colour])

    def test_each_two_neighbours_just_in_order_and_not(self):
        for first, second in zip(TWELVE_SECTORS, TWELVE_SECTORS[1:]):
            self.accepts(sectors(first, second))
            self.refuses(sectors(second, first))

    def test_any_two_in_order_and_not(self):
        for place, first in enumerate(TWELVE_SECTORS):
            for second in TWELVE_SECTORS[place + 1:]:
                self.accepts(sectors(first, second))
                self.refuses(sectors(second, first))

    def test_hardly_apart(self):
        self.accepts(sectors((999, 998), (1000, 999)))
        self.refuses(sectors((1000, 999), (999, 998)))
        self.accepts(sectors((-998, -997), (-999, -998)))
        self.refuses(sectors((-999, -998), (-998, -997)))

    def test_one_so_many_times_another_is_the_same(self):
        for first, second in (((1, 0), (2, 0)), ((0, 3), (0, 1)), ((-2, 4), (-1, 2)), ((-3, -3), (-500, -500)),
                              ((6, -4), (9, -6)), ((-1, 0), (-1000, 0)), ((0, -1), (0, -1))):
            self.refuses(sectors(first, second))
            self.refuses(sectors(second, first))

    def test_the_opposite_is_another(self):
        self.accepts(sectors((1, 0), (-1, 0)))
        self.accepts(sectors((0, 1), (0, -1)))
        self.accepts(sectors((2, 3), (-2, -3)))
        self.refuses(sectors((-2, -3), (2, 3)))

    def test_they_go_round_once(self):
        self.refuses(sectors((0, 1), (-1, 0), (0, -1), (1, 0)))
        self.refuses(sectors((1, 0), (0, 1), (-1, 0), (0, -1), (1, 0)))
        self.refuses(sectors((1, 0), (-1, 0), (0, 1)))

    def test_the_first_need_not_be_east(self):
        self.accepts(sectors((0, 1), (-1, 0), (0, -1), (9, -1)))


class Texts(unittest.TestCase):
    def accepts(self, text):
        self.assertEqual(last(light(text=text)), [0], text)

    def refuses(self, text, *answer):
        self.assertEqual(last(light(text=text)), list(answer), text)

    def test_phases(self):
        for text in ("W1", "-1", "W600", "-600", "W5 -5", "-1 W10 -599 W60", "W1 W1"):
            self.accepts(text)

    def test_no_bytes(self):
        self.refuses("", -6, 0)

    def test_two_blanks_together(self):
        self.refuses("W5  -5", -6, 1)
        self.refuses("W5 -5  W5", -6, 2)

    def test_a_blank_at_an_end(self):
        self.refuses(" W5", -6, 0)
        self.refuses("W5 ", -6, 1)
        self.refuses(" ", -6, 0)
        self.refuses("W5 -5 ", -6, 2)

    def test_noughts_ahead(self):
        for text in ("W05", "W0", "W00", "-0600", "-001"):
            self.refuses(text, -6, 0)
            self.refuses("W10 " + text, -6, 1)

    def test_how_long(self):
        self.accepts("W10 W600")
        for text in ("W601", "W999", "W1000", "W6000", "-4294967297", "W" + "9" * 1000):
            self.refuses(text, -6, 0)
        self.refuses("W10 W601", -6, 1)

    def test_what_is_no_phase(self):
        for text in ("W", "-", "5", "w5", "X5", "WW5", "W5W", "W-5", "W+5", "W5.", "W5,-5", "W5\t-5", "W5\n", "0W5",
                     "B5", "W/", "W:", "W5:", "W1/", "\x005", "\xff\xff", "W\xb25", "--5", "W 5"):
            self.refuses(text, -6, 0)
            self.refuses("-600 " + text, -6, 1)

    def test_32_and_33_phases(self):
        self.accepts(" ".join(["W1", "-2"] * 16))
        self.refuses(" ".join(["W1"] * 33), -6, 32)
        self.refuses(" ".join(["W1"] * 34), -6, 32)
        self.refuses(" ".join(["W1"] * 32) + " ", -6, 32)
        self.refuses(" ".join(["W1"] * 33 + ["X"]), -6, 32)

    def test_an_earlier_fault_than_the_33rd(self):
        self.refuses(" ".join(["W1"] * 31 + ["X"] + ["W1"] * 5), -6, 31)

    def test_6000_together_and_more(self):
        self.accepts(" ".join(LONG_PHASES))
        self.accepts(" ".join(["W187"] * 31 + ["-203"]))
        self.refuses(" ".join(["W187"] * 31 + ["-204"]), -6, 31)
        self.refuses(" ".join(LONG_PHASES + ["W1"]), -6, 10)
        self.refuses(" ".join(LONG_PHASES + ["W1"] * 30), -6, 10)
        self.refuses(" ".join(LONG_PHASES + ["W1", "X"]), -6, 10)
        self.refuses(" ".join(["W599"] + LONG_PHASES), -6, 10)
        self.refuses(" ".join(LONG_PHASES + ["X", "W1"]), -6, 10)
        self.refuses(" ".join(["X"] + LONG_PHASES + ["W1"]), -6, 0)

    def test_1024_and_1025_bytes(self):
        self.refuses("W5 " + "-" * 1021, -6, 1)
        self.refuses("W5 " + "-" * 1022, -2)
        self.refuses(" " * 1024, -6, 0)
        self.refuses(" " * 1025, -2)
        self.refuses("W5 " * 1333, -2)

    def test_other_colours(self):
        for colour in "RGY":
            self.refuses(colour + "5", -8)
            self.refuses("W5 -5 " + colour + "600 W5", -8)

    def test_a_fault_comes_before_other_colours(self):
        self.refuses("R5 G5 X", -6, 2)
        self.refuses("R0", -6, 0)
        self.refuses(" ".join(["Y1"] * 33), -6, 32)
        self.refuses(" ".join(["G600"] * 11), -6, 10)

    def test_all_dark_is_a_rhythm(self):
        self.assertEqual(run(light(text="-5"), seen(1, 0), at(0, 1, 0)), [[0], [1, 0, 1], [0]])


class Order(unittest.TestCase):
    full = [light() for number in range(24)]

    def test_what_is_no_light_comes_first(self):
        for wrong in ({"x": 10001}, {"y": -10001}, {"reach": 0}, {"reach": 20001}, {"sectors": ()},
                      {"sectors": (0, 0, 1)}, {"sectors": (1, 0, 5)}, {"sectors": (1, 0, 1, 1, 0, 1)}):
            for text in ("W5", " " * 1025, "X", "R5"):
                self.assertEqual(last(light(text=text, **wrong)), [-1])
                self.assertEqual(last(*self.full, light(text=text, **wrong)), [-1])

    def test_then_the_text_in_its_order_then_how_many(self):
        for text, answer in ((" " * 1025, [-2]), ("R5 " * 400, [-2]), ("R5 X", [-6, 1]), ("R5", [-8]), ("W5", [-5])):
            self.assertEqual(last(*self.full, light(text=text)), answer)


class Kept(unittest.TestCase):
    def test_each_light_keeps_what_it_was_given(self):
        calls = [light(0, 0, 5, "W5 -5", (1, 0, 2)), light(1, 0, 50, "-7", (0, 1, 3, 0, -1, 4)), coast(9, 9, 9, 8)]
        self.assertEqual(last(*calls, seen(3, 0)), [2, 0, 2, 1, 4])
        self.assertEqual(last(*calls, rhythm(0, 3, 0)), told_text("R5 -5"))
        self.assertEqual(last(*calls, rhythm(1, 3, 0)), told_text("-7"))
        self.assertEqual(last(*calls, seen(30, 1)), [1, 1, 4])


if __name__ == "__main__":
    unittest.main()
