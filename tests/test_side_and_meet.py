"""The calls side and meet, with answers that were worked out by hand."""

import unittest

from tests.lines import LEAST, LEVEL, LEVEL_HORIZON, LEVEL_POST, LEVEL_UP, MOST, NEAR, START, TILTED, TILTED_POST
from tests.lines import behind, last, put

# 3 u + 4 v - 50, which the post's foot makes 210 with.
SLANTED_HORIZON = ("horizon", 3, 4, -50)


class Side(unittest.TestCase):
    def check(self, line, on, same, other):
        """Points on the horizon, on the side of the post's foot, and on the other side."""
        for answer, points in enumerate((on, same, other)):
            for point in points:
                with self.subTest(line=line, point=point):
                    self.assertEqual(last(line + [("side",) + point]), [answer])

    def test_a_level_horizon(self):
        for line in (LEVEL, TILTED, NEAR):
            self.check(line, [(0, 10), (30, 10), (100, 10)], [(30, 11), (20, 50), (0, 100)], [(30, 9), (20, 0)])

    def test_the_posts_foot_beyond_the_horizon(self):
        line = LEVEL + [("post", 20, 5, 20, 2, 2)]
        self.check(line, [(30, 10)], [(30, 9), (20, 5), (0, 0)], [(30, 11), (20, 100)])

    def test_the_foot_counts_not_the_head(self):
        self.check(LEVEL + [("post", 20, 50, 20, 5, 2)], [(20, 10)], [(20, 11), (20, 50)], [(20, 9), (20, 5)])
        self.check(LEVEL + [("post", 20, 5, 20, 50, 2)], [(20, 10)], [(20, 9), (20, 5)], [(20, 11), (20, 50)])
        self.check(LEVEL + [("post", 20, 50, 20, 10, 2)], [(20, 10)], [(20, 11)], [(20, 9)])

    def test_a_post_whose_head_is_below_its_foot(self):
        self.check(LEVEL + [("post", 20, 50, 20, 60, 2)], [(20, 10)], [(20, 11)], [(20, 9)])

    def test_a_horizon_aslant(self):
        self.check(LEVEL + [SLANTED_HORIZON], [(10, 5), (2, 11), (6, 8)], [(10, 6), (0, 13), (100, 0)],
                   [(10, 4), (0, 12), (0, 0)])

    def test_a_horizon_from_top_to_bottom(self):
        line = [START, ("horizon", 1, 0, -40), ("up", 1, 0, 0), ("post", 20, 50, 30, 50, 2)]
        self.check(line, [(40, 0), (40, 100)], [(39, 0), (0, 100)], [(41, 0), (100, 100)])

    def test_a_horizon_with_a_factor(self):
        for factor in (3, 1000, -1, -1000):
            line = LEVEL + [("horizon", 0, factor, -10 * factor)]
            self.check(line, [(30, 10)], [(30, 11), (0, 100)], [(30, 9), (20, 0)])
            self.check(line + [("post", 20, 5, 20, 2, 2)], [(30, 10)], [(30, 9)], [(30, 11)])

    def test_up_with_a_factor_turns_no_side(self):
        for up in (("up", 0, -1, 0), ("up", 20, 190, 1), ("up", -20, -190, -1), ("up", 20, -190, 1)):
            self.check(LEVEL + [up], [(30, 10)], [(30, 11)], [(30, 9)])

    def test_a_horizon_outside_of_the_picture(self):
        line = [START, ("horizon", 0, 1, 100000), LEVEL_UP, LEVEL_POST]
        self.check(line, [], [(0, 0), (100, 0), (0, 100), (100, 100)], [])

    def test_up_itself_is_a_point_too(self):
        self.check(NEAR, [], [(50, 100)], [])


class Meet(unittest.TestCase):
    def check(self, horizon, seen):
        """Those two points, in either order, give that answer with the horizon told alone."""
        for points, answer in seen.items():
            with self.subTest(horizon=horizon, points=points):
                self.assertEqual(last([START, horizon, ("meet",) + points]), answer)
                self.assertEqual(last([START, horizon, ("meet",) + points[2:] + points[:2]]), answer)

    def test_whole(self):
        self.check(LEVEL_HORIZON, {
            (20, 50, 30, 30): [0, 40, 1, 10, 1],
            (60, 90, 60, 50): [0, 60, 1, 10, 1],
            (0, 50, 0, 30): [0, 0, 1, 10, 1],
            (0, 0, 100, 100): [0, 10, 1, 10, 1],
        })

    def test_a_fraction(self):
        # From 20, 50 by 7, -3: 40 down are 280/3 aside.
        self.check(LEVEL_HORIZON, {(20, 50, 27, 47): [0, 340, 3, 10, 1]})
        # 4 v is 50 - 60; and 7 times either number is 50.
        self.check(SLANTED_HORIZON, {
            (20, 50, 20, 30): [0, 20, 1, -5, 2],
            (0, 0, 1, 1): [0, 50, 7, 50, 7],
            # 0, 20 by 5, -1: 15 t + 80 - 4 t is 50 for t = -30/11.
            (0, 20, 5, 19): [0, -150, 11, 250, 11],
        })

    def test_each_fraction_by_itself_has_nothing_in_common(self):
        # 1000 u + 1000 v is 99999; from 0, 100 by 100, -99 it's met at -1/1000 of the way.
        self.check(("horizon", 1000, 1000, -99999), {(0, 100, 100, 1): [0, -1, 10, 100099, 1000]})

    def test_far_outside_of_the_picture(self):
        self.check(LEVEL_HORIZON, {
            (0, 11, 100, 12): [0, -100, 1, 10, 1],
            (0, 99, 100, 100): [0, -8900, 1, 10, 1],
        })
        # From 0, 100 by 100, -99: 1000 (t + 100) is -100000 for t = -200.
        self.check(("horizon", 1000, 1000, 100000), {(0, 100, 100, 1): [0, -20000, 1, 19900, 1]})
        # From 0, 100 by 1, -1: t + 99900 is -100000.
        self.check(("horizon", 1000, 999, 100000), {(0, 100, 100, 0): [0, -199900, 1, 200000, 1]})

    def test_a_point_on_the_horizon(self):
        self.check(LEVEL_HORIZON, {(30, 10, 50, 40): [0, 30, 1, 10, 1], (30, 10, 29, 9): [0, 30, 1, 10, 1]})
        self.check(SLANTED_HORIZON, {(10, 5, 0, 0): [0, 10, 1, 5, 1]})

    def test_between_the_points(self):
        self.check(LEVEL_HORIZON, {(20, 0, 60, 20): [0, 40, 1, 10, 1], (20, 9, 21, 12): [0, 61, 3, 10, 1]})

    def test_beside_the_horizon(self):
        self.check(LEVEL_HORIZON, {(20, 50, 60, 50): [-6], (0, 9, 100, 9): [-6], (0, 11, 1, 11): [-6]})
        self.check(("horizon", 1, 0, -40), {(20, 50, 20, 60): [-6], (41, 0, 41, 100): [-6]})
        self.check(SLANTED_HORIZON, {(10, 6, 6, 9): [-6], (50, 50, 90, 20): [-6]})

    def test_just_not_beside_the_horizon(self):
        self.check(LEVEL_HORIZON, {(20, 50, 60, 51): [0, -1580, 1, 10, 1]})

    def test_being_the_horizon(self):
        self.check(LEVEL_HORIZON, {(20, 10, 60, 10): [-6], (0, 10, 1, 10): [-6]})
        self.check(("horizon", 1, 0, -40), {(40, 0, 40, 100): [-6]})
        self.check(SLANTED_HORIZON, {(10, 5, 2, 11): [-6], (6, 8, 10, 5): [-6]})

    def test_a_horizon_with_a_factor(self):
        for factor in (3, 1000, -1, -1000):
            self.check(("horizon", 0, factor, -10 * factor), {
                (20, 50, 27, 47): [0, 340, 3, 10, 1],
                (0, 99, 100, 100): [0, -8900, 1, 10, 1],
                (20, 50, 60, 50): [-6],
                (20, 10, 60, 10): [-6],
            })

    def test_the_same_point(self):
        self.check(LEVEL_HORIZON, {(20, 50, 20, 50): [-17], (0, 0, 0, 0): [-17], (100, 100, 100, 100): [-17]})

    def test_one_number_the_same_is_not_the_same_point(self):
        self.check(LEVEL_HORIZON, {(20, 50, 20, 51): [0, 20, 1, 10, 1], (50, 20, 51, 20): [-6]})

    def test_with_up_and_post_or_without(self):
        calls = [("meet", 20, 50, 30, 30), ("meet", 20, 50, 60, 50), ("meet", 20, 10, 60, 10), ("meet", 9, 9, 9, 9)]
        answers = [[0, 40, 1, 10, 1], [-6], [-6], [-17]]
        for more in (
            [],
            [LEVEL_UP],
            [LEVEL_POST],
            [LEVEL_UP, LEVEL_POST],
            [("up", 1, 0, 0), LEVEL_POST],
            [("up", 50, 25, 1), TILTED_POST],
            [LEVEL_UP, ("post", 20, 50, 20, 50, 2)],
            [LEVEL_UP, ("post", 20, 10, 20, 30, 2)],
            [LEVEL_UP, ("post", 20, 50, 21, 30, 2)],
        ):
            with self.subTest(more=more):
                self.assertEqual(behind([START, LEVEL_HORIZON] + more, calls), answers)
                self.assertEqual(behind([START] + more + [LEVEL_HORIZON], calls), answers)

    def test_the_horizon_is_not_told(self):
        for line in ([START], [START, LEVEL_UP], [START, LEVEL_POST], [START, LEVEL_UP, LEVEL_POST],
                     [START, LEVEL_HORIZON, START], LEVEL + [START], [START, ("horizon", 0, 0, 5)]):
            with self.subTest(line=line):
                self.assertEqual(last(line + [("meet", 20, 50, 30, 30)]), [-16])

    def test_a_horizon_told_again(self):
        call = ("meet", 20, 50, 30, 30)
        self.assertEqual(behind(LEVEL, [call, ("horizon", 0, 1, -20), call]),
                         [[0, 40, 1, 10, 1], [0], [0, 35, 1, 20, 1]])


class Order(unittest.TestCase):
    """Where several refusals would do, the first named is answered."""

    UNTOLD = ([START], [START, LEVEL_UP, LEVEL_POST])

    def test_out_of_range_ahead_of_not_ready(self):
        for call in (("side", 60, 90), ("meet", 60, 90, 20, 30)):
            for place in range(len(call) - 1):
                for wrong in (-1, 101, LEAST, MOST):
                    for line in self.UNTOLD:
                        with self.subTest(line=line, call=call, place=place, wrong=wrong):
                            self.assertEqual(last(line + [put(call, place, wrong)]), [-22])

    def test_out_of_range_ahead_of_the_same_point(self):
        for line in (LEVEL,) + self.UNTOLD:
            for point in ((101, 5), (5, 101), (-1, 5), (5, -1), (LEAST, LEAST), (MOST, MOST)):
                with self.subTest(line=line, point=point):
                    self.assertEqual(last(line + [("meet",) + point + point]), [-22])

    def test_out_of_range_ahead_of_beyond_all(self):
        self.assertEqual(last(LEVEL + [("meet", 20, 50, 101, 50)]), [-22])
        self.assertEqual(last(LEVEL + [("meet", 20, 10, -1, 10)]), [-22])

    def test_the_same_point_ahead_of_not_ready(self):
        for line in self.UNTOLD:
            self.assertEqual(last(line + [("meet", 5, 5, 5, 5)]), [-17])

    def test_the_same_point_ahead_of_beyond_all(self):
        self.assertEqual(last(LEVEL + [("meet", 5, 10, 5, 10)]), [-17])
        self.assertEqual(last(LEVEL + [("meet", 5, 50, 5, 50)]), [-17])

    def test_not_ready_ahead_of_beyond_all(self):
        # With the horizon that was told ahead of the start, these would be beyond all.
        line = LEVEL + [START, LEVEL_UP, LEVEL_POST]
        self.assertEqual(behind(line, [("meet", 20, 50, 60, 50), ("meet", 20, 10, 60, 10)]), [[-16], [-16]])


if __name__ == "__main__":
    unittest.main()
