"""The function answers: how calls are laid, how answers are given back, and that nothing is changed or kept."""

import doctest
import pathlib
import unittest

from beaconcoasts.chart import answers
from tests.calls import at, clear, coast, colours_seen, joined, light, parted, rhythm, run, seen, tell, track, where

SET_UP = [light(0, 0, 100, "W5 -5", (1, 0, 2, 0, 1, 3)), light(20, 0, 50, "-5 W5", (0, 1, 4, 0, -1, 1)),
          coast(8, -5, 8, 5), coast(-30, 9, -30, 30)]
ASKED = [seen(4, 2), seen(12, 0), seen(-5, 0), at(0, 4, 2), at(5, 4, 2), at(5, 30, 1), rhythm(0, 4, 2),
         rhythm(1, 30, -9), where(-3, -9, 27, 9, (0, 2)), where(2, -3, 12, 3, (0, 0, 1, 0)),
         where(0, 0, 3, 3), track(-9, 1, 1, 0, 40), track(8, -9, 0, 1, 20), tell(-3, -9, 27, 9),
         tell(-3, -9, 27, 9, (0, 3, 1, 0)), tell(-9, 3, 27, 3, (1, 4))]
REFUSED = [light(10001), light(reach=0), light(sectors=()), light(sectors=(1, 0, 1, 1, 0, 2)), light(text="W5 " * 400),
           light(text="W5 X"), light(text="R5"), coast(0, 0, 0, 0), coast(4, 1, 4, 10001), seen(0, 10001),
           at(1000001, 0, 0), at(0, -10001, 0), rhythm(0, 10001, 0), rhythm(2, 0, 0), rhythm(0, 9, 0),
           where(10000, 0, 10001, 0), where(1, 0, 0, 0), where(0, 0, 32, 31), where(0, 0, 3, 3, (0,)),
           where(0, 0, 3, 3, (0, 2) * 25), where(0, 0, 3, 3, (0, 5)), where(0, 0, 3, 3, (2, 0)),
           track(10001, 0, -1, 0, 9), track(9999, 0, 1, 0, 9), track(0, 0, 1001, 0, 0), track(0, 0, 0, 1, 501),
           tell(0, 1, 0, 0), tell(0, 0, 3, 3, (0, 2, 0)), tell(0, 0, 3, 3, (2, 0)), tell(0, 0, 3, 3, (0, 2, 0, 3))]
FULL = [light(number, 7, 50) for number in range(22)] + [coast(number, 90, number, 91) for number in range(62)]
REFUSED_WHEN_FULL = [light(4, 3), coast(2, -9, 2, 9)]


def in_parts(calls):
    """At most 20 of where, track and tell stand in one list, so many calls are tried in parts."""
    return [calls[start:start + 8] for start in range(0, len(calls), 8)]


class Laid(unittest.TestCase):
    def test_written_out(self):
        calls = [0, 0, 0, 9, 5, 87, 53, 32, 45, 54, 6, 1, 0, 2, -1, 0, 0,
                 1, 5, -1, 5, 1,
                 2, 3, 0,
                 3, 10, 3, 0,
                 3, 11, 4, 0,
                 4, 0, 3, 0,
                 4, 0, -3, 0]
        self.assertEqual(answers(calls), [1, 0, 1, 1, 3, 1, 0, 2, 1, 0, 3, 1, 0, 2, 6, 5, 82, 53, 32, 45, 54, 1, -3])

    def test_the_others_written_out(self):
        calls = [0, 0, 0, 9, 2, 87, 53, 6, 1, 0, 2, -1, 0, 3,
                 5, -1, 0, 2, 0, 2, 0, 2,
                 5, -1, 0, 2, 0, 0,
                 5, -1, 0, 2, 0, 4, 0, 2, 0, 4,
                 6, -2, 0, 1, 0, 3,
                 7, -1, 0, 2, 0, 2, 0, 2,
                 7, -1, 0, 2, 0, 0,
                 7, -1, 0, 2, 0, 1, 0,
                 8,
                 6, -2, 0, 1, 0, 3,
                 7, -1, 0, 2, 0, 0]
        self.assertEqual(answers(calls), [1, 0, 5, 2, 1, 0, 2, 0, 5, 4, -1, 0, 2, 0, 1, 0,
                                          10, 3, 0, 0, 3, 2, 0, 0, 3, 0, 2, 6, 0, 0, 0, 2, 0, 0, 6, 0, 1, 0, 2, 1, 0,
                                          1, -1, 1, 0, 1, 0, 1, -3])

    def test_as_the_readme_shows(self):
        readme = pathlib.Path(__file__).resolve().parent.parent / "README.md"
        result = doctest.testfile(str(readme), module_relative=False)
        self.assertEqual((result.failed, result.attempted), (0, 5))

    def test_lists_of_any_length(self):
        long_text = [0, 0, 0, 9, 4000] + [87] * 4000 + [3, 1, 0, 1]
        long_sectors = [0, 0, 0, 9, 2, 87, 53, 4000] + [1] * 4000
        empty = [0, 0, 0, 9, 0, 0]
        self.assertEqual(answers(long_text + long_sectors + empty + seen(0, 0)), [1, -2, 1, -1, 1, -1, 1, 0])
        long_told = joined([where(0, 0, 1, 1, [1] * 4000), tell(0, 0, 1, 1, [0] * 3999), where(0, 0, 1, 1)])
        self.assertEqual(answers(long_told), [1, -1, 1, -1, 5, 4, 0, 0, 1, 1])

    def test_a_refusal_is_its_number_alone_but_lights(self):
        self.assertEqual(answers(joined([light(text="W5 W5 X"), light(text="R5"), seen(0, 10001)])),
                         [2, -6, 2, 1, -8, 1, -1])

    def test_any_call_may_be_first(self):
        for call, told in ((light(), [1, 0]), (coast(0, 0, 1, 1), [1, 1]), (seen(0, 0), [1, 0]), (at(0, 0, 0), [1, 0]),
                           (rhythm(0, 0, 0), [1, -4]), (where(0, 0, 1, 1), [5, 4, 0, 0, 1, 1]),
                           (track(0, 0, 1, 1, 1), [1, 0]), (tell(0, 0, 1, 1), [1, -3]), (clear(), [1, 0])):
            self.assertEqual(answers(call), told)

    def test_400_calls(self):
        told = run(light(), *[seen(number % 9, 3) for number in range(399)])
        self.assertEqual(told, [[0]] + [[1, 0, 1]] * 399)

    def test_whole_numbers_alone(self):
        for part in in_parts(ASKED + REFUSED):
            told = answers(joined(SET_UP + part))
            self.assertIs(type(told), list)
            self.assertEqual({type(number) for number in told}, {int})


class NothingChanged(unittest.TestCase):
    def check(self, before, tried):
        """That each of the calls that are tried leaves all that is answered behind it as it is."""
        for asked in in_parts(ASKED):
            behind = [*asked, light(), coast(0, 0, 1, 1), *asked]
            plain = run(*before, *behind)
            for call in tried:
                told = run(*before, call, *behind)
                self.assertEqual(told[:len(before)] + told[len(before) + 1:], plain, call)

    def test_by_refusals(self):
        for refused in REFUSED:
            self.assertLess(run(*SET_UP, refused)[-1][0], 0, refused)
        self.check(SET_UP, REFUSED)

    def test_by_refusals_when_there_are_no_more(self):
        for refused in REFUSED_WHEN_FULL:
            self.assertEqual(run(*SET_UP, *FULL, refused)[-1], [-5])
        self.check([*SET_UP, *FULL], REFUSED_WHEN_FULL)

    def test_by_asking(self):
        for asked in ASKED:
            self.assertGreaterEqual(run(*SET_UP, asked)[-1][0], 0, asked)
        self.check(SET_UP, ASKED)

    def test_before_anything_is_there(self):
        self.check([], REFUSED + ASKED)
        for asked in in_parts(ASKED):
            plain = run(*SET_UP, *asked)
            for call in REFUSED + ASKED:
                self.assertEqual(run(call, *SET_UP, *asked)[1:], plain, call)


class NothingKept(unittest.TestCase):
    def test_the_list_handed_in_is_as_it_was(self):
        for part in in_parts(ASKED + REFUSED):
            calls = joined(SET_UP + part + [clear()] + SET_UP + part)
            copy = list(calls)
            answers(calls)
            self.assertEqual(calls, copy)

    def test_each_time_is_as_the_first(self):
        calls = joined(SET_UP + ASKED)
        first = answers(calls)
        self.assertEqual(answers(calls), first)
        self.assertEqual(parted(answers(joined(ASKED)))[0], [0])
        self.assertEqual(answers(calls), first)

    def test_after_a_full_chart(self):
        run(*SET_UP, *FULL)
        self.assertEqual(run(light(), coast(0, 0, 1, 1), where(0, 0, 1, 1, (0, 1)), tell(0, 0, 1, 1, (1, 1))),
                         [[0], [1], [0], [-4]])

    def test_what_was_given_back_is_nobody_elses(self):
        calls = joined(SET_UP + ASKED)
        first = answers(calls)
        kept = list(first)
        first.clear()
        self.assertEqual(answers(calls), kept)


class WholeCases(unittest.TestCase):
    """As many lights, coasts and long calls as there may be."""

    lights = [light(7 * number, 5 * number, 90 + number, "W5", (9, 2, number % 5, -1, number, 1, -1, -9, 3))
              for number in range(24)]
    coasts = [coast(3 * number, 70 - number, 3 * number + 2, 71 - number) for number in range(64)]

    def test_where_and_tell_over_the_largest_fields(self):
        for x, y, u, v in ((60, 40, 91, 71), (-400, 55, 623, 55), (85, -400, 85, 623)):
            asked = [where(x, y, u, v, (number, 0)) for number in range(10)] + [tell(x, y, u, v)] * 10
            told = run(*self.lights, *self.coasts, *asked)[88:]
            places = [(column, row) for row in range(y, v + 1) for column in range(x, u + 1)]
            colours = colours_seen(self.lights + self.coasts, places, 24)
            for number in range(10):
                dark = [place for place, seen_there in zip(places, colours) if seen_there[number] == 0]
                self.assertEqual(told[number], [len(dark), *dark[0], *dark[-1]])
            counts = [[[row[number] for row in colours].count(colour) for colour in range(5)] for number in range(24)]
            best = min(range(24), key=lambda number: max(counts[number]))
            self.assertEqual(told[10:], [[best, *counts[best]]] * 10)

    def test_tracks_with_very_many_changes(self):
        # the way goes through each light's own place, so each of them is seen twice
        lights = [light(2 * number + 1, 0, 1) for number in range(24)]
        told = run(*lights, *[track(0, 0, 1, 0, 500)] * 20)[24:]
        changes = sorted((step + 2 * number, number, colour) for number in range(24)
                         for step, colour in ((0, 1), (1, 0), (2, 1), (3, 0)))
        self.assertEqual(told, [[96, *joined(changes)]] * 20)


if __name__ == "__main__":
    unittest.main()
