"""The function answers: how calls are laid, how answers are given back, and that nothing is changed or kept."""

import doctest
import pathlib
import unittest

from beaconcoasts.chart import answers
from tests.calls import at, coast, joined, light, parted, rhythm, run, seen

SET_UP = [light(0, 0, 100, "W5 -5", (1, 0, 2, 0, 1, 3)), light(20, 0, 50, "-5 W5", (0, 1, 4, 0, -1, 1)),
          coast(8, -5, 8, 5), coast(-30, 9, -30, 30)]
ASKED = [seen(4, 2), seen(12, 0), seen(-5, 0), at(0, 4, 2), at(5, 4, 2), at(5, 30, 1), rhythm(0, 4, 2),
         rhythm(1, 30, -9), rhythm(0, 9, 0)]
REFUSED = [light(10001), light(reach=0), light(sectors=()), light(sectors=(1, 0, 1, 1, 0, 2)), light(text="W5 " * 400),
           light(text="W5 X"), light(text="R5"), coast(0, 0, 0, 0), coast(4, 1, 4, 10001), seen(0, 10001),
           at(1000001, 0, 0), at(0, -10001, 0), rhythm(0, 10001, 0), rhythm(2, 0, 0), rhythm(0, 0, 0)]
FULL = [light(number, 7, 50) for number in range(22)] + [coast(number, 90, number, 91) for number in range(62)]
REFUSED_WHEN_FULL = [light(4, 3), coast(2, -9, 2, 9)]


class Laid(unittest.TestCase):
    def test_written_out(self):
        calls = [0, 0, 0, 9, 5, 87, 53, 32, 45, 54, 6, 1, 0, 2, -1, 0, 0,
                 1, 5, -1, 5, 1,
                 2, 3, 0,
                 3, 10, 3, 0,
                 3, 11, 4, 0,
                 4, 0, 3, 0,
                 4, 0, -3, 0]
        self.assertEqual(answers(calls), [1, 0, 1, 1, 3, 1, 0, 2, 1, 0, 3, 1, 0, 2, 6, 5, 82, 53, 32, 45, 54, 1, -3])

    def test_as_the_readme_shows(self):
        readme = pathlib.Path(__file__).resolve().parent.parent / "README.md"
        result = doctest.testfile(str(readme), module_relative=False)
        self.assertEqual((result.failed, result.attempted), (0, 3))

    def test_lists_of_any_length(self):
        long_text = [0, 0, 0, 9, 4000] + [87] * 4000 + [3, 1, 0, 1]
        long_sectors = [0, 0, 0, 9, 2, 87, 53, 4000] + [1] * 4000
        empty = [0, 0, 0, 9, 0, 0]
        self.assertEqual(answers(long_text + long_sectors + empty + seen(0, 0)), [1, -2, 1, -1, 1, -1, 1, 0])

    def test_a_refusal_is_its_number_alone_but_lights(self):
        self.assertEqual(answers(joined([light(text="W5 W5 X"), light(text="R5"), seen(0, 10001)])),
                         [2, -6, 2, 1, -8, 1, -1])

    def test_any_call_may_be_first(self):
        for call, told in ((light(), [1, 0]), (coast(0, 0, 1, 1), [1, 1]), (seen(0, 0), [1, 0]), (at(0, 0, 0), [1, 0]),
                           (rhythm(0, 0, 0), [1, -4])):
            self.assertEqual(answers(call), told)

    def test_400_calls(self):
        told = run(light(), *[seen(number % 9, 3) for number in range(399)])
        self.assertEqual(told, [[0]] + [[1, 0, 1]] * 399)

    def test_whole_numbers_alone(self):
        told = answers(joined(SET_UP + ASKED + REFUSED))
        self.assertIs(type(told), list)
        self.assertEqual({type(number) for number in told}, {int})


class NothingChanged(unittest.TestCase):
    def test_by_refusals(self):
        plain = run(*SET_UP, *ASKED, light(), coast(0, 0, 1, 1))
        for refused in REFUSED:
            told = run(*SET_UP, refused, *ASKED, light(), coast(0, 0, 1, 1))
            self.assertLess(told[len(SET_UP)][0], 0)
            self.assertEqual(told[:len(SET_UP)] + told[len(SET_UP) + 1:], plain)

    def test_by_refusals_when_there_are_no_more(self):
        plain = run(*SET_UP, *FULL, *ASKED)
        for refused in REFUSED_WHEN_FULL:
            told = run(*SET_UP, *FULL, refused, *ASKED)
            self.assertEqual(told[len(SET_UP) + len(FULL)], [-5])
            self.assertEqual(told[-len(ASKED):], plain[-len(ASKED):])

    def test_by_asking(self):
        plain = run(*SET_UP, *ASKED, light(), coast(0, 0, 1, 1))
        for asked in ASKED:
            told = run(*SET_UP, asked, *ASKED, light(), coast(0, 0, 1, 1))
            self.assertEqual(told[:len(SET_UP)] + told[len(SET_UP) + 1:], plain)

    def test_before_anything_is_there(self):
        plain = run(*SET_UP, *ASKED)
        before = REFUSED + ASKED
        self.assertEqual(run(*before, *SET_UP, *ASKED)[len(before):], plain)


class NothingKept(unittest.TestCase):
    def test_the_list_handed_in_is_as_it_was(self):
        calls = joined(SET_UP + ASKED + REFUSED)
        copy = list(calls)
        answers(calls)
        self.assertEqual(calls, copy)

    def test_each_time_is_as_the_first(self):
        calls = joined(SET_UP + ASKED)
        first = answers(calls)
        self.assertEqual(answers(calls), first)
        self.assertEqual(parted(answers(joined(ASKED)))[0], [0])
        self.assertEqual(answers(calls), first)

    def test_after_a_full_chart(self):
        run(*SET_UP, *FULL)
        self.assertEqual(run(light(), coast(0, 0, 1, 1)), [[0], [1]])

    def test_what_was_given_back_is_nobody_elses(self):
        calls = joined(SET_UP + ASKED)
        first = answers(calls)
        kept = list(first)
        first.clear()
        self.assertEqual(answers(calls), kept)


if __name__ == "__main__":
    unittest.main()
