"""Many drawn cases, answered by the program and by another, slower reckoning with fractions."""

import random
import re
import unittest
from fractions import Fraction

from tests.calls import at, coast, joined, light, rhythm, run, seen

PHASE = re.compile(r"[-WRGY](?:[1-9]|[1-9][0-9]|[1-5][0-9][0-9]|600)\Z")
SIGNS = {1: "W", 2: "R", 3: "G", 4: "Y"}


def turned(x, y):
    """How far a direction is turned from (1, 0): 0 to 4, a quarter each, growing as the angle does."""
    along = Fraction(x, abs(x) + abs(y))
    return 1 - along if y > 0 or (y == 0 and x > 0) else 3 + along


def meets(a, b, c, d):
    """If the straights a-b and c-d have a common point: a + s(b - a) = c + t(d - c), s and t from 0 to 1."""
    (px, py), (qx, qy) = (b[0] - a[0], b[1] - a[1]), (d[0] - c[0], d[1] - c[1])
    rx, ry = c[0] - a[0], c[1] - a[1]
    under = px * qy - py * qx
    if under != 0:
        return 0 <= Fraction(rx * qy - ry * qx, under) <= 1 and 0 <= Fraction(rx * py - ry * px, under) <= 1
    if rx * py - ry * px != 0:
        return False
    begin, end = sorted(Fraction((e[0] - a[0]) * px + (e[1] - a[1]) * py, px * px + py * py) for e in (c, d))
    return begin <= 1 and end >= 0


def sectors_are_wrong(numbers):
    if len(numbers) % 3 != 0 or not 3 <= len(numbers) <= 36:
        return True
    rows = [numbers[start:start + 3] for start in range(0, len(numbers), 3)]
    if any((x, y) == (0, 0) or max(abs(x), abs(y)) > 1000 or colour not in range(5) for x, y, colour in rows):
        return True
    turns = [turned(x, y) for x, y, colour in rows]
    return turns != sorted(set(turns))


def fault_of(text):
    together = 0
    for number, part in enumerate(text.split(" ")):
        together += int(part[1:]) if PHASE.match(part) else 6001
        if number == 32 or together > 6000:
            return number
    return None


class Model:
    """The five calls, told again."""

    def __init__(self):
        self.lights = []
        self.coasts = []

    def light(self, x, y, reach, text, sectors):
        if max(abs(x), abs(y)) > 10000 or not 1 <= reach <= 20000 or sectors_are_wrong(sectors):
            return [-1]
        if len(text) > 1024:
            return [-2]
        if fault_of(text) is not None:
            return [-6, fault_of(text)]
        if set(text) & set("RGY"):
            return [-8]
        if len(self.lights) == 24:
            return [-5]
        self.lights.append((x, y, reach, text, sectors))
        return [len(self.lights) - 1]

    def coast(self, x, y, u, v):
        if max(abs(x), abs(y), abs(u), abs(v)) > 10000 or (x, y) == (u, v):
            return [-1]
        if len(self.coasts) == 64:
            return [-5]
        self.coasts.append(((x, y), (u, v)))
        return [len(self.coasts)]

    def colour(self, number, x, y):
        from_x, from_y, reach, text, sectors = self.lights[number]
        if (x, y) == (from_x, from_y) or (x - from_x) ** 2 + (y - from_y) ** 2 > reach ** 2:
            return 0
        if any(meets((from_x, from_y), (x, y), *ends) for ends in self.coasts):
            return 0
        turns = [(turned(*sectors[start:start + 2]), sectors[start + 2]) for start in range(0, len(sectors), 3)]
        way = turned(x - from_x, y - from_y)
        return max([pair for pair in turns if pair[0] <= way] or turns, key=lambda pair: pair[0])[1]

    def seen(self, x, y):
        if max(abs(x), abs(y)) > 10000:
            return [-1]
        return self.told([number for number in range(len(self.lights))], x, y)

    def at(self, time, x, y):
        if time > 1000000 or max(abs(x), abs(y)) > 10000:
            return [-1]
        rounds = [joined([part[0]] * int(part[1:]) for part in row[3].split(" ")) for row in self.lights]
        return self.told([number for number, way in enumerate(rounds) if way[time % len(way)] == "W"], x, y)

    def told(self, numbers, x, y):
        colours = [(number, self.colour(number, x, y)) for number in numbers]
        found = [pair for pair in colours if pair[1] != 0]
        return [len(found), *joined(found)]

    def rhythm(self, number, x, y):
        if max(abs(x), abs(y)) > 10000:
            return [-1]
        if number >= len(self.lights):
            return [-4]
        if self.colour(number, x, y) == 0:
            return [-3]
        text = self.lights[number][3].replace("W", SIGNS[self.colour(number, x, y)])
        return [len(text), *text.encode()]


class Drawn:
    """Calls drawn by a seed, near one another, so that much of them touches; and what the model answers."""

    def __init__(self, seed, size, scale):
        self.draw = random.Random(seed)
        self.size = size
        self.scale = scale

    def number(self):
        return self.draw.randint(-self.size, self.size) * self.scale

    def colour(self):
        return self.draw.choice((0, 1, 2, 3, 4, 4, 3, 2, 1, 5) if self.draw.random() < 0.1 else (0, 1, 2, 3, 4))

    def sectors(self):
        limit = self.draw.choice((1, 2, 3, 1000))
        ways = [(self.draw.randint(-limit, limit), self.draw.randint(-limit, limit))
                for number in range(self.draw.randint(1, 9))]
        if self.draw.random() < 0.9:
            ways = sorted({turned(*way): way for way in ways if way != (0, 0)}.items())
            ways = [way for turn, way in ways] or [(1, 0)]
        return joined((x, y, self.colour()) for x, y in ways)

    def text(self):
        signs = "W-" if self.draw.random() < 0.9 else "W-RGYX "
        longest = self.draw.choice((3, 12, 200, 605))
        count = self.draw.choice((1, 2, 3, 4, 7, 33))
        return " ".join(self.draw.choice(signs) + str(self.draw.randint(1, longest)) for number in range(count))

    def calls(self):
        """(name, arguments) of each call."""
        place = lambda: (self.number(), self.number())
        made = []
        for number in range(self.draw.randint(5, 60)):
            name = self.draw.choice(("light", "light", "coast", "seen", "seen", "at", "rhythm", "rhythm"))
            reach = self.draw.randint(0, 4 * self.size) * self.scale
            made.append((name, {"light": lambda: (*place(), reach, self.text(), self.sectors()),
                                "coast": lambda: (*place(), *place()),
                                "seen": place,
                                "at": lambda: (self.draw.choice((0, 1, 7, 500, 999999, 1000000)), *place()),
                                "rhythm": lambda: (self.draw.randint(0, 8), *place())}[name]()))
        return made


class Compared(unittest.TestCase):
    makers = {"light": light, "coast": coast, "seen": seen, "at": at, "rhythm": rhythm}

    def compare(self, drawn):
        model = Model()
        calls = drawn.calls()
        expected = [getattr(model, name)(*given) for name, given in calls]
        self.assertEqual(run(*[self.makers[name](*given) for name, given in calls]), expected)
        return expected

    def test_close_together(self):
        seen_of_any = 0
        for seed in range(600):
            expected = self.compare(Drawn(seed, 4, 1))
            seen_of_any += len([answer for answer in expected if len(answer) > 2])
        self.assertGreater(seen_of_any, 1000)

    def test_far_apart(self):
        for seed in range(300):
            self.compare(Drawn(seed, 6, 1667))

    def test_anywhere(self):
        for seed in range(300):
            self.compare(Drawn(seed, 10010, 1))


if __name__ == "__main__":
    unittest.main()
