"""What holds of stands, taller, rule, like, side and meet, on many pictures of rooms that are known."""

import unittest
from collections import Counter

from tests.lines import behind
from tests.rooms import ROOMS, ask_all, check_point, fraction, lines, seen, through, told


def some(room, count):
    """Some of what stands there, about so many, with their heights in that room."""
    standing = list(zip(room.standing, room.heights))
    return standing[::max(1, len(standing) // count)]


class WhatHolds(unittest.TestCase):
    def test_all_of_them_stand_and_nothing_beside_does(self):
        for room, post, unit, line in lines():
            calls = [("stands",) + seen(foot, head) for foot, head in room.standing[::5]]
            self.assertEqual(ask_all(line, calls), [[1]] * len(calls))
            aside = [(foot, (head[0] + 1, head[1] - 1)) for foot, head in room.standing[::5]
                     if head[0] < 100 and head[1] > 0]
            calls = [("stands",) + seen(foot, head) for foot, head in aside]
            on_a_line = [sum(a * b for a, b in zip(through(foot, head + (1,)), room.up)) == 0 for foot, head in aside]
            is_up = [through(head + (1,), room.up) == (0, 0, 0) for foot, head in aside]
            self.assertEqual(ask_all(line, calls), [[int(so and not up)] for so, up in zip(on_a_line, is_up)])

    def test_a_taller_is_who_is_higher_in_the_room(self):
        counts = Counter()
        for room, post, unit, line in lines():
            # A post that goes down is told to be above 0: then all heights are turned round.
            turned = room.height(*post) < 0
            pairs = [(first, second) for first in some(room, 17) for second in some(room, 45)]
            parts = ask_all(line, [("taller",) + seen(*first[0]) + seen(*second[0]) for first, second in pairs])
            for (first, second), part in zip(pairs, parts):
                higher = first[1] < second[1] if turned else first[1] > second[1]
                answer = 0 if first[1] == second[1] else 1 if higher else 2
                self.assertEqual(part, [answer], (line, first, second))
                counts[answer] += 1
        self.assertGreater(min(counts[answer] for answer in (0, 1, 2)), 10)

    def test_a_rule_tells_the_post_by_the_room(self):
        for room, post, unit, line in lines():
            others = [(other, high) for other, high in some(room, 150) if high != 0]
            post_height = room.height(*post)
            for m in (1, 60, 1000):
                parts = ask_all(line, [("rule",) + seen(*other) + (m,) for other, high in others])
                for (other, high), part in zip(others, parts):
                    self.assertEqual(fraction(part), m * post_height / high, (line, other))

    def test_b_rule_is_the_posts_height_were_the_other_the_post(self):
        for room, post, unit, line in lines():
            others = [other for other, high in some(room, 50) if high != 0]
            for other in others:
                by_rule = behind(line, [("rule",) + seen(*other) + (60,)])[0]
                swapped = told(room) + [("post",) + seen(*other) + (60,)]
                self.assertEqual(behind(swapped, [("height",) + seen(*post)])[0], by_rule, (line, other))

    def test_b_one_by_the_other_and_the_other_by_that_one(self):
        count = 0
        for room, post, unit, line in lines():
            others = [other for other, high in some(room, 400) if high != 0]
            parts = ask_all(line, [("rule",) + seen(*other) + (60,) for other in others])
            for other, part in zip(others, parts):
                if part[2] == 1 and 1 <= part[1] <= 1000:
                    again = told(room) + [("post",) + seen(*post) + (part[1],)]
                    self.assertEqual(behind(again, [("height",) + seen(*other)])[0], [0, 60, 1], (line, other))
                    count += 1
        self.assertGreater(count, 100)

    def test_c_like_of_what_is_as_high_as_the_eye_is_on_the_horizon(self):
        count = 0
        for room, post, unit, line in lines():
            eye = room.eye()
            at_the_eye = [stands for stands, high in zip(room.standing, room.heights) if high == eye]
            for stands in at_the_eye[::max(1, len(at_the_eye) // 4)]:
                for part in ask_all(line, [("like",) + seen(*stands) + foot[:2] for foot in room.feet()]):
                    if part != [-6]:
                        head = (fraction([0] + part[1:3]), fraction([0] + part[3:]), 1)
                        self.assertEqual(room.makes(head), 0)
                        count += 1
        self.assertGreater(count, 1000)

    def test_d_likes_head_is_where_as_high_is_seen_in_the_room(self):
        for room, post, unit, line in lines():
            for stands, high in some(room, 12):
                feet = room.feet()
                parts = ask_all(line, [("like",) + seen(*stands) + foot[:2] for foot in feet])
                for foot, part in zip(feet, parts):
                    check_point(self, part, room.seen_at(foot, high), (line, stands, foot))

    def test_d_likes_head_is_as_high(self):
        count = 0
        for room, post, unit, line in lines():
            for stands, high in some(room, 40):
                feet = room.feet()
                parts = ask_all(line, [("like",) + seen(*stands) + foot[:2] for foot in feet])
                for foot, part in zip(feet, parts):
                    if part != [-6] and part[2::2] == [1, 1] and 0 <= min(part[1::2]) and max(part[1::2]) <= 100:
                        there = foot[:2] + (part[1], part[3])
                        first, second, alike = behind(line, [("height",) + seen(*stands), ("height",) + there,
                                                             ("taller",) + seen(*stands) + there])
                        self.assertEqual((first, alike), (second, [0]), (line, stands, foot))
                        count += stands[0] != foot and high != 0
        self.assertGreater(count, 100)

    def test_what_is_seen_of_the_floor_is_on_the_side_of_the_posts_foot_or_on_the_other(self):
        for room, post, unit, line in lines():
            points = [(u, v) for u in range(0, 101, 5) for v in range(0, 101, 7)]
            own = room.makes(post[0])
            for point, part in zip(points, ask_all(line, [("side",) + point for point in points])):
                makes = room.makes(point + (1,))
                self.assertEqual(part, [0 if makes == 0 else 1 if (makes > 0) == (own > 0) else 2], (line, point))

    def test_lines_of_the_floor_meet_the_horizon_where_their_direction_ends(self):
        for room in ROOMS:
            feet = room.feet()
            pairs = [(first, second) for first in feet[::9] for second in feet[::11] if first != second]
            for (first, second), part in zip(pairs, ask_all(told(room), [("meet",) + seen(*pair) for pair in pairs])):
                from_x, from_y = room.ground(first)
                to_x, to_y = room.ground(second)
                end = [(to_x - from_x) * room.across[k] + (to_y - from_y) * room.along[k] for k in range(3)]
                check_point(self, part, end, (room.horizon, first, second))


if __name__ == "__main__":
    unittest.main()
