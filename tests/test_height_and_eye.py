"""The calls height and eye, with answers that were worked out by hand."""

import unittest

from tests.lines import EYE, LEAST, LEVEL, LEVEL_HORIZON, LEVEL_POST, LEVEL_UP, MOST, NEAR, START, TILTED, TILTED_POST
from tests.lines import ask, last


class Level(unittest.TestCase):
    """Up beyond all: a rise of r on a foot that makes m is 4 r / m high."""

    def height(self, *numbers):
        return last(LEVEL + [("height",) + numbers])

    def test_the_post_itself(self):
        self.assertEqual(self.height(20, 50, 20, 30), [0, 2, 1])

    def test_whole(self):
        self.assertEqual(self.height(60, 90, 60, 50), [0, 2, 1])
        self.assertEqual(self.height(0, 30, 0, 20), [0, 2, 1])
        self.assertEqual(self.height(0, 50, 0, 40), [0, 1, 1])

    def test_fractions(self):
        self.assertEqual(self.height(60, 90, 60, 60), [0, 3, 2])
        self.assertEqual(self.height(60, 40, 60, 33), [0, 14, 15])
        self.assertEqual(self.height(60, 100, 60, 99), [0, 2, 45])

    def test_a_head_below_its_foot(self):
        self.assertEqual(self.height(60, 50, 60, 60), [0, -1, 1])
        self.assertEqual(self.height(60, 90, 60, 100), [0, -1, 2])
        self.assertEqual(self.height(60, 40, 60, 45), [0, -2, 3])

    def test_a_head_just_at_the_foot(self):
        self.assertEqual(self.height(60, 90, 60, 90), [0, 0, 1])
        self.assertEqual(self.height(60, 5, 60, 5), [0, 0, 1])
        self.assertEqual(self.height(0, 0, 0, 0), [0, 0, 1])

    def test_a_head_on_the_horizon(self):
        self.assertEqual(self.height(60, 90, 60, 10), [0, 4, 1])

    def test_higher_than_the_eye(self):
        self.assertEqual(self.height(60, 90, 60, 0), [0, 9, 2])

    def test_a_foot_beyond_the_horizon(self):
        self.assertEqual(self.height(30, 6, 30, 8), [0, 2, 1])
        self.assertEqual(self.height(30, 6, 30, 2), [0, -4, 1])
        self.assertEqual(self.height(30, 3, 30, 2), [0, -4, 7])
        self.assertEqual(self.height(30, 6, 30, 10), [0, 4, 1])

    def test_nothing_stands_so(self):
        self.assertEqual(self.height(30, 10, 30, 5), [-33])
        self.assertEqual(self.height(30, 10, 30, 10), [-33])
        self.assertEqual(self.height(60, 90, 61, 50), [-33])
        self.assertEqual(self.height(60, 90, 59, 90), [-33])

    def test_the_eye(self):
        self.assertEqual(last(LEVEL + [EYE]), [0, 4, 1])


class Tilted(unittest.TestCase):
    """Up at 50, 190: a rise of r on a foot that makes m is 630 r / m high."""

    def height(self, *numbers):
        return last(TILTED + [("height",) + numbers])

    def test_the_post_itself(self):
        self.assertEqual(self.height(50, 80, 50, 25), [0, 3, 1])

    def test_on_a_line_aslant(self):
        # From 30, 50 up is 20, 140 away: each 1 aside is 7 high. Rises 1/21, 2/22, 5/25.
        self.assertEqual(self.height(30, 50, 29, 43), [0, 3, 4])
        self.assertEqual(self.height(30, 50, 28, 36), [0, 63, 44])
        self.assertEqual(self.height(30, 50, 25, 15), [0, 63, 20])

    def test_whole(self):
        # From 20, 40 up is 30, 150 away: the rise is 5 / 35, and 630 / 7 / 30.
        self.assertEqual(self.height(20, 40, 15, 15), [0, 3, 1])
        # From 0, 80 up is 50, 110 away: the rise is -5 / 45, and -630 / 9 / 70.
        self.assertEqual(self.height(0, 80, 5, 91), [0, -1, 1])

    def test_fractions(self):
        # The rises are 10 / 40, 45 / 135, 22 / 132 and 1 / 11.
        self.assertEqual(self.height(20, 70, 10, 30), [0, 21, 8])
        self.assertEqual(self.height(50, 100, 50, 55), [0, 7, 3])
        self.assertEqual(self.height(50, 80, 50, 58), [0, 3, 2])
        self.assertEqual(self.height(40, 20, 39, 3), [0, 63, 11])

    def test_a_head_below_its_foot(self):
        # The rise is -7 / 133 = -1/19.
        self.assertEqual(self.height(30, 50, 31, 57), [0, -63, 76])
        # The rise is -20 / 100 = -1/5 and the foot makes 60.
        self.assertEqual(self.height(50, 70, 50, 90), [0, -21, 10])

    def test_a_head_just_at_the_foot(self):
        self.assertEqual(self.height(30, 50, 30, 50), [0, 0, 1])

    def test_a_head_on_the_horizon(self):
        self.assertEqual(self.height(50, 80, 50, 10), [0, 7, 2])
        # From 25, 40 up is 25, 150 away.
        self.assertEqual(self.height(25, 40, 20, 10), [0, 7, 2])

    def test_higher_than_the_eye(self):
        # The rise is 8/19 and the foot makes 70.
        self.assertEqual(self.height(50, 80, 50, 0), [0, 72, 19])

    def test_a_foot_beyond_the_horizon(self):
        # The foot makes -5 and the rises are -5 / 180, 5 / 190 and -10 / 175.
        self.assertEqual(self.height(50, 5, 50, 10), [0, 7, 2])
        self.assertEqual(self.height(50, 5, 50, 0), [0, -63, 19])
        self.assertEqual(self.height(50, 5, 50, 15), [0, 36, 5])

    def test_nothing_stands_so(self):
        self.assertEqual(self.height(50, 10, 50, 5), [-33])
        self.assertEqual(self.height(30, 50, 29, 42), [-33])
        self.assertEqual(self.height(30, 50, 30, 43), [-33])

    def test_the_eye(self):
        self.assertEqual(last(TILTED + [EYE]), [0, 7, 2])


class Near(unittest.TestCase):
    """Up is seen, at 50, 100: a rise of r on a foot that makes m is 120 r / m high."""

    def height(self, *numbers):
        return last(NEAR + [("height",) + numbers])

    def test_side_by_side_with_up(self):
        # Foot, head and up are all in one row: the rise is told by the first numbers alone.
        self.assertEqual(self.height(40, 100, 30, 100), [0, 2, 3])
        self.assertEqual(self.height(80, 100, 90, 100), [0, 1, 3])

    def test_a_head_close_to_up(self):
        # The rise is -19 / 1 and the foot makes 70.
        self.assertEqual(self.height(50, 80, 50, 99), [0, -228, 7])

    def test_up_between_foot_and_head(self):
        # The rise is 60 / 30 and the foot makes 90.
        self.assertEqual(self.height(80, 100, 20, 100), [0, 8, 3])

    def test_foot_or_head_being_up(self):
        self.assertEqual(self.height(50, 100, 50, 40), [-33])
        self.assertEqual(self.height(50, 70, 50, 100), [-33])
        self.assertEqual(self.height(50, 100, 50, 100), [-33])
        self.assertEqual(self.height(50, 99, 50, 98), [0, 60, 89])

    def test_the_eye(self):
        self.assertEqual(last(NEAR + [EYE]), [0, 4, 3])


class Eye(unittest.TestCase):
    def eye(self, horizon, up, post):
        return last([START, horizon, up, post, EYE])

    def test_whole_and_a_fraction(self):
        self.assertEqual(self.eye(LEVEL_HORIZON, LEVEL_UP, ("post", 20, 50, 20, 30, 5)), [0, 10, 1])
        self.assertEqual(self.eye(LEVEL_HORIZON, LEVEL_UP, ("post", 20, 50, 20, 20, 2)), [0, 8, 3])

    def test_below_zero(self):
        # The post's head goes down, or its foot is beyond the horizon.
        self.assertEqual(self.eye(LEVEL_HORIZON, LEVEL_UP, ("post", 20, 50, 20, 60, 3)), [0, -12, 1])
        self.assertEqual(self.eye(LEVEL_HORIZON, LEVEL_UP, ("post", 20, 50, 20, 80, 2)), [0, -8, 3])
        self.assertEqual(self.eye(LEVEL_HORIZON, LEVEL_UP, ("post", 20, 4, 20, 0, 2)), [0, -3, 1])

    def test_a_post_higher_than_the_eye(self):
        self.assertEqual(self.eye(LEVEL_HORIZON, LEVEL_UP, ("post", 20, 50, 20, 0, 10)), [0, 8, 1])

    def test_a_post_whose_head_is_on_the_horizon(self):
        self.assertEqual(self.eye(LEVEL_HORIZON, LEVEL_UP, ("post", 20, 50, 20, 10, 7)), [0, 7, 1])

    def test_a_horizon_aslant(self):
        # 3 u + 4 v - 50: the foot makes 60 + 200 - 50 and up 4: 2 / 20 * 210 / 4.
        self.assertEqual(self.eye(("horizon", 3, 4, -50), LEVEL_UP, LEVEL_POST), [0, 21, 4])

    def test_up_beyond_all_aslant(self):
        # The rise by 3, 4, 0 is 5; the foot makes 40 and up 4: 2 / 5 * 40 / 4.
        self.assertEqual(self.eye(LEVEL_HORIZON, ("up", 3, 4, 0), ("post", 35, 50, 20, 30, 2)), [0, 4, 1])


class Factors(unittest.TestCase):
    """A line and a point count up to a factor, below 0 too."""

    ASKED = [("height", 60, 90, 60, 60), ("height", 60, 50, 60, 60), ("height", 30, 6, 30, 8), EYE,
             ("head", 60, 90, 1, 3), ("head", 60, 90, -1, 3)]
    SLANTED = [("height", 30, 50, 28, 36), ("height", 30, 50, 31, 57), ("height", 50, 5, 50, 0), EYE,
               ("head", 30, 50, 1, 1), ("head", 30, 50, -1, 1), ("head", 30, 50, 63, 4)]

    def test_a_horizon_with_a_factor(self):
        for factor in (2, 7, 1000, -1, -3, -1000):
            horizon = ("horizon", 0, factor, -10 * factor)
            with self.subTest(factor=factor):
                self.assertEqual(ask(LEVEL + [horizon] + self.ASKED)[5:], ask(LEVEL + self.ASKED)[4:])
                self.assertEqual(ask(TILTED + [horizon] + self.SLANTED)[5:], ask(TILTED + self.SLANTED)[4:])

    def test_up_beyond_all_with_a_factor(self):
        for factor in (2, 7, 1000, -1, -3, -1000):
            with self.subTest(factor=factor):
                self.assertEqual(ask(LEVEL + [("up", 0, factor, 0)] + self.ASKED)[5:], ask(LEVEL + self.ASKED)[4:])

    def test_up_at_a_point_with_minus_1_for_the_third(self):
        told = ask(TILTED + [("up", -50, -190, -1)] + self.SLANTED)[5:]
        self.assertEqual(told, ask(TILTED + self.SLANTED)[4:])
        self.assertEqual(told, [[0, 63, 44], [0, -63, 76], [0, -63, 19], [0, 7, 2],
                                [0, 1690, 59, 2390, 59], [0, 2090, 67, 3910, 67], [-6]])

    def test_minus_1_below_on_the_way(self):
        # The rises by 0, -1, 0 are -1 and -10, the feet make 40 and 1: 2 * 10 * 40.
        line = [START, LEVEL_HORIZON, ("up", 0, -1, 0), ("post", 20, 50, 20, 49, 2)]
        self.assertEqual(last(line + [("height", 60, 11, 60, 1)]), [0, 800, 1])
        self.assertEqual(last(line + [("height", 60, 11, 60, 21)]), [0, -800, 1])
        self.assertEqual(last(line + [EYE]), [0, 80, 1])

    def test_the_two_with_factors(self):
        line = [START, ("horizon", 0, -5, 50), ("up", -50, -190, -1), TILTED_POST]
        self.assertEqual(ask(line + self.SLANTED)[4:], ask(TILTED + self.SLANTED)[4:])


class Order(unittest.TestCase):
    """Where several refusals would do, the first named is answered."""

    def test_out_of_range_ahead_of_not_ready(self):
        for wrong in (-1, 101, LEAST, MOST):
            for place in range(4):
                numbers = [60, 90, 60, 50]
                numbers[place] = wrong
                self.assertEqual(last([START, ("height",) + tuple(numbers)]), [-22])

    def test_out_of_range_ahead_of_not_standing(self):
        self.assertEqual(last(LEVEL + [("height", 30, 10, 30, 101)]), [-22])
        self.assertEqual(last(LEVEL + [("height", 60, 90, -1, 50)]), [-22])
        self.assertEqual(last(NEAR + [("height", 50, 100, 50, 101)]), [-22])

    def test_not_ready_ahead_of_not_standing(self):
        line = [START, LEVEL_HORIZON, LEVEL_UP]
        self.assertEqual(last(line + [("height", 30, 10, 30, 5)]), [-16])
        self.assertEqual(last(line + [("height", 60, 90, 61, 50)]), [-16])
        self.assertEqual(last(line + [("post", 20, 50, 20, 50, 2), ("height", 60, 90, 61, 50)]), [-16])

    def test_not_ready(self):
        self.assertEqual(ask([START, EYE, ("height", 60, 90, 60, 50)])[1:], [[-16], [-16]])


if __name__ == "__main__":
    unittest.main()
