"""Many drawn cases, answered by the program and by another, slower reckoning with fractions."""

import random
import re
import unittest
from fractions import Fraction

from tests.calls import at, clear, coast, joined, light, rhythm, run, seen, tell, track, where

PHASE = re.compile(r"[-WRGY](?:[1-9]|[1-9][0-9]|[1-5][0-9][0-9]|600)\Z")
SIGNS = {1: "W", 2: "R", 3: "G", 4: "Y"}
MOST_LONG_CALLS = 20


def turned(x, y):
    """How far a direction is turned from (1, 0): 0 to 4, a quarter each, growing as the angle does."""
    along = Fraction(x, abs(x) + abs(y))
    return 1 - along if y > 0 or (y == 0 and x > 0) else 3 + along


def meets(a, b, c, d):
    """If the straights a-b and c-d have a common point: a + s(b - a) = c + t(d - c), s and t from 0 to 1."""
    (px, py), (qx, qy) = (b[0] - a[0], b[1] - a[1]), (d[0] - c[0], d[1] - c[1])
    rx, ry = c[0] - a[0], c[1] - a[1]
    under = px * qy - py * qx
    if under != 0:
        return 0 <= Fraction(rx * qy - ry * qx, under) <= 1 and 0 <= Fraction(rx * py - ry * px, under) <= 1
    if rx * py - ry * px != 0:
        return False
    begin, end = sorted(Fraction((e[0] - a[0]) * px + (e[1] - a[1]) * py, px * px + py * py) for e in (c, d))
    return begin <= 1 and end >= 0


def sectors_are_wrong(numbers):
    if len(numbers) % 3 != 0 or not 3 <= len(numbers) <= 36:
        return True
    rows = [numbers[start:start + 3] for start in range(0, len(numbers), 3)]
    if any((x, y) == (0, 0) or max(abs(x), abs(y)) > 1000 or colour not in range(5) for x, y, colour in rows):
        return True
    turns = [turned(x, y) for x, y, colour in rows]
    return turns != sorted(set(turns))


def fault_of(text):
    together = 0
    for number, part in enumerate(text.split(" ")):
        together += int(part[1:]) if PHASE.match(part) else 6001
        if number == 32 or together > 6000:
            return number
    return None


def field_is_wrong(x, y, u, v, told):
    if max(abs(x), abs(y), abs(u), abs(v)) > 10000 or u < x or v < y or (u - x + 1) * (v - y + 1) > 1024:
        return True
    return len(told) % 2 != 0 or len(told) > 48 or any(colour > 4 for colour in told[1::2])


class Model:
    """The nine calls, told again."""

    def __init__(self):
        self.clear()

    def clear(self):
        self.lights = []
        self.coasts = []
        self.known = {}
        return [0]

    def light(self, x, y, reach, text, sectors):
        if max(abs(x), abs(y)) > 10000 or not 1 <= reach <= 20000 or sectors_are_wrong(sectors):
            return [-1]
        if len(text) > 1024:
            return [-2]
        if fault_of(text) is not None:
            return [-6, fault_of(text)]
        if set(text) & set("RGY"):
            return [-8]
        if len(self.lights) == 24:
            return [-5]
        self.lights.append((x, y, reach, text, sectors))
        return [len(self.lights) - 1]

    def coast(self, x, y, u, v):
        if max(abs(x), abs(y), abs(u), abs(v)) > 10000 or (x, y) == (u, v):
            return [-1]
        if len(self.coasts) == 64:
            return [-5]
        self.coasts.append(((x, y), (u, v)))
        self.known = {}
        return [len(self.coasts)]

    def colour(self, number, x, y):
        if (number, x, y) not in self.known:
            self.known[number, x, y] = self.reckoned(number, x, y)
        return self.known[number, x, y]

    def reckoned(self, number, x, y):
        from_x, from_y, reach, text, sectors = self.lights[number]
        if (x, y) == (from_x, from_y) or (x - from_x) ** 2 + (y - from_y) ** 2 > reach ** 2:
            return 0
        if any(meets((from_x, from_y), (x, y), *ends) for ends in self.coasts):
            return 0
        turns = [(turned(*sectors[start:start + 2]), sectors[start + 2]) for start in range(0, len(sectors), 3)]
        way = turned(x - from_x, y - from_y)
        return max([pair for pair in turns if pair[0] <= way] or turns, key=lambda pair: pair[0])[1]

    def seen(self, x, y):
        if max(abs(x), abs(y)) > 10000:
            return [-1]
        return self.told([number for number in range(len(self.lights))], x, y)

    def at(self, time, x, y):
        if time > 1000000 or max(abs(x), abs(y)) > 10000:
            return [-1]
        rounds = [joined([part[0]] * int(part[1:]) for part in row[3].split(" ")) for row in self.lights]
        return self.told([number for number, way in enumerate(rounds) if way[time % len(way)] == "W"], x, y)

    def told(self, numbers, x, y):
        colours = [(number, self.colour(number, x, y)) for number in numbers]
        found = [pair for pair in colours if pair[1] != 0]
        return [len(found), *joined(found)]

    def rhythm(self, number, x, y):
        if max(abs(x), abs(y)) > 10000:
            return [-1]
        if number >= len(self.lights):
            return [-4]
        if self.colour(number, x, y) == 0:
            return [-3]
        text = self.lights[number][3].replace("W", SIGNS[self.colour(number, x, y)])
        return [len(text), *text.encode()]

    def places(self, x, y, u, v, told):
        pairs = list(zip(told[::2], told[1::2]))
        return [(column, row) for row in range(y, v + 1) for column in range(x, u + 1)
                if all(self.colour(number, column, row) == colour for number, colour in pairs)]

    def where(self, x, y, u, v, told):
        if field_is_wrong(x, y, u, v, told):
            return [-1]
        if any(number >= len(self.lights) for number in told[::2]):
            return [-4]
        places = self.places(x, y, u, v, told)
        return [len(places), *places[0], *places[-1]] if places else [0]

    def tell(self, x, y, u, v, told):
        if self.where(x, y, u, v, told)[0] < 0:
            return self.where(x, y, u, v, told)
        places = self.places(x, y, u, v, told)
        if not places or not self.lights:
            return [-3]
        colours = [[self.colour(number, *place) for place in places] for number in range(len(self.lights))]
        greatest = [max(row.count(colour) for colour in row) for row in colours]
        best = greatest.index(min(greatest))
        return [best, *[colours[best].count(colour) for colour in range(5)]]

    def track(self, x, y, u, v, n):
        if n > 500 or max(abs(u), abs(v)) > 1000 or max(abs(x), abs(y), abs(x + n * u), abs(y + n * v)) > 10000:
            return [-1]
        before = {number: 0 for number in range(len(self.lights))}
        told = []
        for step in range(n + 1):
            now = {number: self.colour(number, x + step * u, y + step * v) for number in before}
            told += [(step, number, now[number]) for number in now if now[number] != before[number]]
            before = now
        return [len(told), *joined(told)]


class Drawn:
    """Calls drawn by a seed, near one another, so that much of them touches; and what the model answers."""

    def __init__(self, seed, size, scale):
        self.draw = random.Random(seed)
        self.size = size
        self.scale = scale

    def number(self):
        return self.draw.randint(-self.size, self.size) * self.scale

    def colour(self):
        return self.draw.choice((0, 1, 2, 3, 4, 4, 3, 2, 1, 5) if self.draw.random() < 0.1 else (0, 1, 2, 3, 4))

    def sectors(self):
        limit = self.draw.choice((1, 2, 3, 1000))
        ways = [(self.draw.randint(-limit, limit), self.draw.randint(-limit, limit))
                for number in range(self.draw.randint(1, 9))]
        if self.draw.random() < 0.9:
            ways = sorted({turned(*way): way for way in ways if way != (0, 0)}.items())
            ways = [way for turn, way in ways] or [(1, 0)]
        return joined((x, y, self.colour()) for x, y in ways)

    def text(self):
        signs = "W-" if self.draw.random() < 0.9 else "W-RGYX "
        longest = self.draw.choice((3, 12, 200, 605))
        count = self.draw.choice((1, 2, 3, 4, 7, 33))
        return " ".join(self.draw.choice(signs) + str(self.draw.randint(1, longest)) for number in range(count))

    def near(self):
        """Corners of a field that lies about one of the places that are drawn."""
        x, y = self.number(), self.number()
        width, height = self.draw.choice(((0, 0), (3, 3), (9, 1), (1, 9), (6, 9), (9, 6), (17, 0), (0, 17)))
        if self.draw.random() < 0.05:
            width, height = self.draw.choice(((1024, 0), (0, 1024), (-1, 3), (3, -1), (32, 31)))
        x, y = x - self.draw.randint(0, max(width, 0)), y - self.draw.randint(0, max(height, 0))
        return x, y, x + width, y + height

    def told(self, model, field):
        """Mostly what is so at some place of the field, so that some are left."""
        if self.draw.random() < 0.06:
            return self.draw.choice(((0,), (0, 5), (20, 1), (0, 1) * 25, (24, 5), (0, 1, 0, 0)))
        numbers = [self.draw.randrange(len(model.lights)) for number in range(self.draw.choice((0, 1, 1, 2, 3)))
                   if model.lights]
        place = (self.draw.choice(field[::2]), self.draw.choice(field[1::2]))
        return joined((number, model.colour(number, *place)) for number in numbers)

    def looked(self, model):
        field = self.near()
        return (*field, self.told(model, field))

    def way(self):
        """A way from one place about those that are drawn, often over several of them."""
        step = self.draw.choice((0, 1, 1, 2, self.scale))
        x, y = self.number(), self.number()
        u, v = self.draw.randint(-3, 3) * step, self.draw.randint(-3, 3) * step
        n = self.draw.choice((0, 1, 2, 5, 9, 20, 30, 501 if self.draw.random() < 0.1 else 40))
        return x - n // 2 * u, y - n // 2 * v, u, v, n

    def calls(self, model, count):
        """(name, arguments) of each call; the model makes each as soon as it's given."""
        names = ["light", "light", "coast", "seen", "seen", "at", "rhythm", "rhythm", "where", "track", "tell"]
        short = names[:-3]
        place = lambda: (self.number(), self.number())
        reach = lambda: self.draw.randint(0, 4 * self.size) * self.scale
        made = {"light": lambda: (*place(), reach(), self.text(), self.sectors()),
                "coast": lambda: (*place(), *place()),
                "seen": place,
                "at": lambda: (self.draw.choice((0, 1, 7, 500, 999999, 1000000)), *place()),
                "rhythm": lambda: (self.draw.randint(0, 8), *place()),
                "where": lambda: self.looked(model),
                "track": self.way,
                "tell": lambda: self.looked(model),
                "clear": lambda: ()}
        left = MOST_LONG_CALLS
        for number in range(count):
            name = self.draw.choice(names if left > 0 else short) if self.draw.random() < 0.98 else "clear"
            left -= name in names[-3:]
            yield name, made[name]()


class Compared(unittest.TestCase):
    makers = {"light": light, "coast": coast, "seen": seen, "at": at, "rhythm": rhythm, "where": where, "track": track,
              "tell": tell, "clear": clear}

    def compare(self, drawn, count):
        model = Model()
        calls = []
        expected = []
        for name, given in drawn.calls(model, count):
            calls.append((name, given))
            expected.append(getattr(model, name)(*given))
        answered = run(*[self.makers[name](*given) for name, given in calls])
        for call, told, answer in zip(calls, answered, expected):
            self.assertEqual(told, answer, call)
        self.assertEqual(len(answered), len(expected))
        return [(name, answer) for (name, given), answer in zip(calls, expected)]

    def compare_many(self, seeds, size, scale):
        found = []
        for seed in seeds:
            drawn = Drawn(seed, size, scale)
            found += self.compare(drawn, drawn.draw.randint(5, 60))
        return found

    def how_many(self, found, name, least):
        return len([answer for asked, answer in found if asked == name and answer[0] >= least])

    def test_close_together(self):
        found = self.compare_many(range(600), 4, 1)
        # that what is drawn tries what it's for
        leasts = {"seen": 2, "at": 1, "rhythm": 2, "where": 2, "track": 2, "tell": 1, "clear": 0}
        for name, least in leasts.items():
            self.assertGreater(self.how_many(found, name, least), 200, name)

    def test_far_apart(self):
        self.compare_many(range(300), 6, 1667)

    def test_anywhere(self):
        self.compare_many(range(300), 10010, 1)

    def test_many_calls(self):
        for seed in range(40):
            self.compare(Drawn(seed, 5, 1), 140)
            self.compare(Drawn(seed, 6, 1667), 140)


if __name__ == "__main__":
    unittest.main()
