"""Rooms that are known, and pictures of them, for the tests of what holds.

The picture of a room's point X, Y, Z (Z is how high it is) is X across + Y along + Z up
+ origin, three numbers that count up to a factor. So up is where up goes, the horizon
is the line through across and along, and the eye is the room's point whose picture is
three times 0. All is worked back from the picture by solving equations.
"""

from fractions import Fraction
from math import gcd

from tests.lines import START, behind


class Room:
    def __init__(self, across, along, up, origin):
        self.across = across
        self.along = along
        self.up = up
        self.origin = origin
        self.horizon = through(across, along)
        self.grounds = {}
        self.standing = list(self.stand())
        self.heights = [self.height(foot, head) for foot, head in self.standing]

    def ground(self, foot):
        """X and Y of the floor's point that is seen there."""
        if foot not in self.grounds:
            self.grounds[foot] = solve(self.across, self.along, minus(foot), minus(self.origin))[:2]
        return self.grounds[foot]

    def seen_at(self, foot, z):
        """The picture of the point that is z above the foot."""
        x, y = self.ground(foot)
        return [x * self.across[k] + y * self.along[k] + z * self.up[k] + self.origin[k] for k in range(3)]

    def height(self, foot, head):
        """Z of the point above the foot that is seen at the head."""
        below = self.seen_at(foot, 0)
        # A third direction makes the equations ones with one answer; it is not gone into.
        aside = through(self.up, head)
        solved = solve(self.up, minus(head), aside, minus(below))
        if solved[2] != 0:
            raise ValueError("not above the foot")
        return solved[0]

    def eye(self):
        """Z of the eye."""
        return solve(self.across, self.along, self.up, minus(self.origin))[2]

    def stand(self):
        """Feet and heads, in whole numbers from 0 to 100, of what may stand there."""
        for u in range(0, 101, 10):
            for v in range(2, 101, 9):
                foot = (u, v, 1)
                way = [self.up[k] - self.up[2] * foot[k] for k in range(2)]
                if way == [0, 0] or self.makes(foot) == 0:
                    continue
                step = [number // gcd(way[0], way[1]) for number in way]
                for times in range(-60, 61):
                    head = (u + times * step[0], v + times * step[1], 1)
                    if 0 <= min(head) and max(head) <= 100 and through(head, self.up) != (0, 0, 0):
                        yield foot, head

    def feet(self):
        """The feet, from 0 to 100, on which something may stand there."""
        return sorted({foot for foot, head in self.standing})

    def makes(self, point):
        """What a point makes with the horizon."""
        return sum(a * b for a, b in zip(self.horizon, point))


def minus(numbers):
    return [-number for number in numbers]


def through(first, second):
    return (first[1] * second[2] - first[2] * second[1],
            first[2] * second[0] - first[0] * second[2],
            first[0] * second[1] - first[1] * second[0])


def solve(first, second, third, goal):
    """The three factors by which first, second and third add up to goal."""
    rows = [[Fraction(number) for number in row] for row in zip(first, second, third, goal)]
    for k in range(3):
        pivot = next(i for i in range(k, 3) if rows[i][k] != 0)
        rows[k], rows[pivot] = rows[pivot], rows[k]
        rows[k] = [number / rows[k][k] for number in rows[k]]
        for i in range(3):
            if i != k:
                rows[i] = [number - rows[i][k] * own for number, own in zip(rows[i], rows[k])]
    return [row[3] for row in rows]


ROOMS = [
    # Looking level, from 3 above the floor.
    Room((40, 0, 0), (50, 10, 1), (0, -40, 0), (0, 120, 0)),
    # The picture turned: all that's upright goes aslant, side by side.
    Room((3, -4, 0), (50, 30, 1), (-4, -3, 0), (8, 6, 0)),
    # Looking down; up is a point far below the picture.
    Room((30, 2, 0), (45, 12, 1), (-50, -190, -1), (200, 700, 4)),
    # Looking up; up is a point above the picture.
    Room((20, -1, 0), (30, 80, 1), (60, -150, 1), (90, 310, 3)),
    # Up is seen, and the horizon goes aslant through the picture.
    Room((10, 3, 0), (40, 50, 1), (51, 92, 1), (-60, 130, 2)),
    # The floor's two directions both end in points that are seen.
    Room((5, 40, 1), (90, 20, 1), (-30, -120, -1), (100, 170, 2)),
]


def told(room):
    return [START, ("horizon",) + room.horizon, ("up",) + room.up]


def seen(foot, head):
    return foot[:2] + head[:2]


def fraction(answer):
    """A fraction as it's told, once it is seen to be told rightly."""
    if len(answer) != 3 or answer[0] != 0 or answer[2] < 1 or gcd(answer[1], answer[2]) != 1:
        raise ValueError("no fraction: " + repr(answer))
    return Fraction(answer[1], answer[2])


def ask_all(line, calls):
    """What the calls answer behind that line, which is told anew for each hundred."""
    parts = []
    for place in range(0, len(calls), 100):
        parts.extend(behind(line, calls[place:place + 100]))
    return parts


def posts(room):
    """Some of what stands there, not all of it seen from one side."""
    standing = [(foot, head) for foot, head in room.standing if foot != head]
    return standing[::max(1, len(standing) // 4)]


def lines():
    """A room, a post in it (a foot and a head), by what its heights are multiplied as they're told, and the line
    that tells it."""
    for room in ROOMS:
        for place, post in enumerate(posts(room)):
            n = (1, 7, 12, 1000)[place % 4]
            yield room, post, n / room.height(*post), told(room) + [("post",) + seen(*post) + (n,)]


def check_point(case, part, point, why):
    """The answer tells that point of three numbers, or that it is beyond all."""
    if point[2] == 0:
        case.assertEqual(part, [-6], why)
    else:
        case.assertEqual((len(part), part[0]), (5, 0), why)
        case.assertEqual(fraction([0] + part[1:3]), Fraction(point[0]) / point[2], why)
        case.assertEqual(fraction([0] + part[3:]), Fraction(point[1]) / point[2], why)
