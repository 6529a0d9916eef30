"""What holds of all heights, on many pictures of rooms that are known.

The picture of a room's point X, Y, Z (Z is how high it is) is X across + Y along + Z up
+ origin, three numbers that count up to a factor. So up is where up goes, the horizon
is the line through across and along, and the eye is the room's point whose picture is
three times 0. All is worked back from the picture by solving equations.
"""

import unittest
from fractions import Fraction
from math import gcd

from tests.lines import EYE, START, ask


class Room:
    def __init__(self, across, along, up, origin):
        self.across = across
        self.along = along
        self.up = up
        self.origin = origin
        self.horizon = through(across, along)
        self.standing = list(self.stand())
        self.heights = [self.height(foot, head) for foot, head in self.standing]

    def ground(self, foot):
        """X and Y of the floor's point that is seen there."""
        solved = solve(self.across, self.along, minus(foot), minus(self.origin))
        return solved[0], solved[1]

    def seen_at(self, foot, z):
        """The picture of the point that is z above the foot."""
        x, y = self.ground(foot)
        return [x * self.across[k] + y * self.along[k] + z * self.up[k] + self.origin[k] for k in range(3)]

    def height(self, foot, head):
        """Z of the point above the foot that is seen at the head."""
        below = self.seen_at(foot, 0)
        # A third direction makes the equations ones with one answer; it is not gone into.
        aside = through(self.up, head)
        solved = solve(self.up, minus(head), aside, minus(below))
        if solved[2] != 0:
            raise ValueError("not above the foot")
        return solved[0]

    def eye(self):
        """Z of the eye."""
        return solve(self.across, self.along, self.up, minus(self.origin))[2]

    def stand(self):
        """Feet and heads, in whole numbers from 0 to 100, of what may stand there."""
        for u in range(0, 101, 10):
            for v in range(2, 101, 9):
                foot = (u, v, 1)
                way = [self.up[k] - self.up[2] * foot[k] for k in range(2)]
                if way == [0, 0] or sum(a * b for a, b in zip(self.horizon, foot)) == 0:
                    continue
                step = [number // gcd(way[0], way[1]) for number in way]
                for times in range(-60, 61):
                    head = (u + times * step[0], v + times * step[1], 1)
                    if 0 <= min(head) and max(head) <= 100 and through(head, self.up) != (0, 0, 0):
                        yield foot, head


def minus(numbers):
    return [-number for number in numbers]


def through(first, second):
    return (first[1] * second[2] - first[2] * second[1],
            first[2] * second[0] - first[0] * second[2],
            first[0] * second[1] - first[1] * second[0])


def solve(first, second, third, goal):
    """The three factors by which first, second and third add up to goal."""
    rows = [[Fraction(number) for number in row] for row in zip(first, second, third, goal)]
    for k in range(3):
        pivot = next(i for i in range(k, 3) if rows[i][k] != 0)
        rows[k], rows[pivot] = rows[pivot], rows[k]
        rows[k] = [number / rows[k][k] for number in rows[k]]
        for i in range(3):
            if i != k:
                rows[i] = [number - rows[i][k] * own for number, own in zip(rows[i], rows[k])]
    return [row[3] for row in rows]


ROOMS = [
    # Looking level, from 3 above the floor.
    Room((40, 0, 0), (50, 10, 1), (0, -40, 0), (0, 120, 0)),
    # The picture turned: all that's upright goes aslant, side by side.
    Room((3, -4, 0), (50, 30, 1), (-4, -3, 0), (8, 6, 0)),
    # Looking down; up is a point far below the picture.
    Room((30, 2, 0), (45, 12, 1), (-50, -190, -1), (200, 700, 4)),
    # Looking up; up is a point above the picture.
    Room((20, -1, 0), (30, 80, 1), (60, -150, 1), (90, 310, 3)),
    # Up is seen, and the horizon goes aslant through the picture.
    Room((10, 3, 0), (40, 50, 1), (51, 92, 1), (-60, 130, 2)),
    # The floor's two directions both end in points that are seen.
    Room((5, 40, 1), (90, 20, 1), (-30, -120, -1), (100, 170, 2)),
]


def told(room):
    return [START, ("horizon",) + room.horizon, ("up",) + room.up]


def seen(foot, head):
    return foot[:2] + head[:2]


def fraction(answer):
    """A fraction as it's told, once it is seen to be told rightly."""
    if len(answer) != 3 or answer[0] != 0 or answer[2] < 1 or gcd(answer[1], answer[2]) != 1:
        raise ValueError("no fraction: " + repr(answer))
    return Fraction(answer[1], answer[2])


def ask_all(line, calls):
    """What the calls answer behind that line, which is told anew for each hundred."""
    parts = []
    for place in range(0, len(calls), 100):
        parts.extend(ask(line + calls[place:place + 100])[len(line):])
    return parts


class WhatHolds(unittest.TestCase):
    ASKED = ((1, 1), (-5, 2), (0, 9), (6, 4), (60, 1), (7, 1), (12, 1), (-3, 1), (1000, 1), (14, 3))

    def posts(self, room):
        """Some of what stands there, not all of it seen from one side."""
        standing = [(foot, head) for foot, head in room.standing if foot != head]
        return standing[::max(1, len(standing) // 4)]

    def lines(self):
        """A room, by what its heights are multiplied as they're told, and the line that tells it."""
        for room in ROOMS:
            for place, (foot, head) in enumerate(self.posts(room)):
                n = (1, 7, 12, 1000)[place % 4]
                yield room, n / room.height(foot, head), told(room) + [("post",) + seen(foot, head) + (n,)]

    def test_a_every_height_is_the_height(self):
        count = 0
        for room, unit, line in self.lines():
            parts = ask_all(line, [("height",) + seen(foot, head) for foot, head in room.standing])
            for stands, high, part in zip(room.standing, room.heights, parts):
                self.assertEqual(fraction(part), high * unit, (line, stands))
                count += 1
        self.assertGreater(count, 10000)

    def test_a_the_eye_is_as_high_as_it_is(self):
        for room, unit, line in self.lines():
            self.assertEqual(fraction(ask(line + [EYE])[-1]), room.eye() * unit, line)

    def test_b_whichever_the_post(self):
        count = 0
        for room in ROOMS:
            for foot, head in self.posts(room):
                line = told(room) + [("post",) + seen(foot, head) + (60,)]
                parts = ask_all(line, [("height",) + seen(*stands) for stands in room.standing])
                for (other_foot, other_head), part in zip(room.standing, parts):
                    high = fraction(part)
                    if high.denominator == 1 and 1 <= high <= 1000:
                        line = told(room) + [("post",) + seen(other_foot, other_head) + (high.numerator,)]
                        self.assertEqual(ask(line + [("height",) + seen(foot, head)])[-1], [0, 60, 1])
                        count += 1
        self.assertGreater(count, 100)

    def test_c_on_the_horizon_is_what_is_as_high_as_the_eye(self):
        count = 0
        for room, unit, line in self.lines():
            eye = ask(line + [EYE])[-1]
            parts = ask_all(line, [("height",) + seen(foot, head) for foot, head in room.standing])
            for (foot, head), part in zip(room.standing, parts):
                on = sum(a * b for a, b in zip(room.horizon, head)) == 0
                self.assertEqual(part == eye, on, (line, foot, head))
                count += on
        self.assertGreater(count, 100)

    def test_d_the_head_is_where_it_is_told(self):
        count = 0
        for room, unit, line in self.lines():
            calls = []
            heads = []
            for (foot, head), true_height in zip(room.standing, room.heights):
                high = true_height * unit
                if abs(high.numerator) <= 1000 and high.denominator <= 1000:
                    calls.append(("head",) + foot[:2] + (high.numerator, high.denominator))
                    heads.append([0, head[0], 1, head[1], 1])
            self.assertEqual(ask_all(line, calls), heads, line)
            count += len(calls)
        self.assertGreater(count, 1000)

    def test_d_it_is_as_high_as_was_asked_for(self):
        count = 0
        for room, unit, line in self.lines():
            feet = sorted({foot for foot, head in room.standing})
            calls = [("head",) + foot[:2] + high for foot in feet for high in self.ASKED]
            for call, part in zip(calls, ask_all(line, calls)):
                self.check_place(room, unit, call, part)
                if part == [-6] or call[3] == 0:
                    continue
                if part[2] == 1 and part[4] == 1 and 0 <= part[1] <= 100 and 0 <= part[3] <= 100:
                    high = ask(line + [("height",) + call[1:3] + (part[1], part[3])])[-1]
                    self.assertEqual(fraction(high), Fraction(call[3], call[4]))
                    count += 1
        self.assertGreater(count, 100)

    def check_place(self, room, unit, call, part):
        """The point told, whole or not, is where something so high is seen in that room."""
        first, second, third = room.seen_at(call[1:3] + (1,), Fraction(call[3], call[4]) / unit)
        if third == 0:
            self.assertEqual(part, [-6])
        else:
            self.assertEqual((len(part), part[0]), (5, 0))
            self.assertEqual(fraction([0] + part[1:3]), first / third)
            self.assertEqual(fraction([0] + part[3:]), second / third)


if __name__ == "__main__":
    unittest.main()
