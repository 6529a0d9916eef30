"""What holds of heights, the eye and heads, on many pictures of rooms that are known."""

import unittest
from fractions import Fraction

from tests.lines import EYE, ask
from tests.rooms import ROOMS, ask_all, check_point, fraction, lines, posts, seen, told


class WhatHolds(unittest.TestCase):
    ASKED = ((1, 1), (-5, 2), (0, 9), (6, 4), (60, 1), (7, 1), (12, 1), (-3, 1), (1000, 1), (14, 3))

    def test_a_every_height_is_the_height(self):
        count = 0
        for room, post, unit, line in lines():
            parts = ask_all(line, [("height",) + seen(foot, head) for foot, head in room.standing])
            for stands, high, part in zip(room.standing, room.heights, parts):
                self.assertEqual(fraction(part), high * unit, (line, stands))
                count += 1
        self.assertGreater(count, 10000)

    def test_a_the_eye_is_as_high_as_it_is(self):
        for room, post, unit, line in lines():
            self.assertEqual(fraction(ask(line + [EYE])[-1]), room.eye() * unit, line)

    def test_b_whichever_the_post(self):
        count = 0
        for room in ROOMS:
            for foot, head in posts(room):
                line = told(room) + [("post",) + seen(foot, head) + (60,)]
                parts = ask_all(line, [("height",) + seen(*stands) for stands in room.standing])
                for (other_foot, other_head), part in zip(room.standing, parts):
                    high = fraction(part)
                    if high.denominator == 1 and 1 <= high <= 1000:
                        line = told(room) + [("post",) + seen(other_foot, other_head) + (high.numerator,)]
                        self.assertEqual(ask(line + [("height",) + seen(foot, head)])[-1], [0, 60, 1])
                        count += 1
        self.assertGreater(count, 100)

    def test_c_on_the_horizon_is_what_is_as_high_as_the_eye(self):
        count = 0
        for room, post, unit, line in lines():
            eye = ask(line + [EYE])[-1]
            parts = ask_all(line, [("height",) + seen(foot, head) for foot, head in room.standing])
            for (foot, head), part in zip(room.standing, parts):
                on = room.makes(head) == 0
                self.assertEqual(part == eye, on, (line, foot, head))
                count += on
        self.assertGreater(count, 100)

    def test_d_the_head_is_where_it_is_told(self):
        count = 0
        for room, post, unit, line in lines():
            calls = []
            heads = []
            for (foot, head), true_height in zip(room.standing, room.heights):
                high = true_height * unit
                if abs(high.numerator) <= 1000 and high.denominator <= 1000:
                    calls.append(("head",) + foot[:2] + (high.numerator, high.denominator))
                    heads.append([0, head[0], 1, head[1], 1])
            self.assertEqual(ask_all(line, calls), heads, line)
            count += len(calls)
        self.assertGreater(count, 1000)

    def test_d_it_is_as_high_as_was_asked_for(self):
        count = 0
        for room, post, unit, line in lines():
            calls = [("head",) + foot[:2] + high for foot in room.feet() for high in self.ASKED]
            for call, part in zip(calls, ask_all(line, calls)):
                point = room.seen_at(call[1:3] + (1,), Fraction(call[3], call[4]) / unit)
                check_point(self, part, point, (line, call))
                if part == [-6] or call[3] == 0:
                    continue
                if part[2] == 1 and part[4] == 1 and 0 <= part[1] <= 100 and 0 <= part[3] <= 100:
                    high = ask(line + [("height",) + call[1:3] + (part[1], part[3])])[-1]
                    self.assertEqual(fraction(high), Fraction(call[3], call[4]))
                    count += 1
        self.assertGreater(count, 100)


if __name__ == "__main__":
    unittest.main()
