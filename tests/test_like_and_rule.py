"""The calls like and rule, with answers that were worked out by hand."""

import unittest

from tests.lines import EYE, LEAST, LEVEL, LEVEL_HORIZON, MOST, NEAR, NEAR_UP, START, TILTED, UNREADY, behind, last, put


class Like(unittest.TestCase):
    """As high on a foot that makes k as a rise of r is on one that makes m is a rise of r k / m."""

    def check(self, line, seen):
        """What is seen (foot, head, another foot) gives those answers."""
        for numbers, answer in seen.items():
            with self.subTest(line=line, numbers=numbers):
                self.assertEqual(last(line + [("like",) + numbers]), answer)

    def test_whole(self):
        self.check(LEVEL, {
            (20, 50, 20, 30, 60, 90): [0, 60, 1, 50, 1],
            (60, 90, 60, 50, 20, 50): [0, 20, 1, 30, 1],
            (60, 90, 60, 50, 0, 30): [0, 0, 1, 20, 1],
        })

    def test_a_fraction(self):
        # Rises of 30 * 20 / 80 and 7 * 40 / 30.
        self.check(LEVEL, {
            (60, 90, 60, 60, 0, 30): [0, 0, 1, 45, 2],
            (60, 40, 60, 33, 20, 50): [0, 20, 1, 122, 3],
        })

    def test_on_the_same_foot(self):
        self.check(LEVEL, {(60, 90, 60, 61, 60, 90): [0, 60, 1, 61, 1]})
        self.check(TILTED, {(30, 50, 28, 36, 30, 50): [0, 28, 1, 36, 1]})

    def test_a_head_just_at_the_foot(self):
        self.check(LEVEL, {(60, 90, 60, 90, 20, 50): [0, 20, 1, 50, 1], (60, 5, 60, 5, 0, 0): [0, 0, 1, 0, 1]})
        self.check(TILTED, {(30, 50, 30, 50, 50, 80): [0, 50, 1, 80, 1]})

    def test_a_head_below_its_foot(self):
        # A rise of -10 * 80 / 40.
        self.check(LEVEL, {(60, 50, 60, 60, 20, 90): [0, 20, 1, 110, 1]})
        # A rise of -1/9 * 40 / 70 = -4/63: (63 * 30 + 4 * 50) by 67, (63 * 50 + 4 * 190) by 67.
        self.check(TILTED, {(0, 80, 5, 91, 30, 50): [0, 2090, 67, 3910, 67]})

    def test_a_head_on_the_horizon(self):
        self.check(LEVEL, {(60, 90, 60, 10, 7, 3): [0, 7, 1, 10, 1], (60, 90, 60, 10, 0, 11): [0, 0, 1, 10, 1]})
        self.check(TILTED, {(50, 80, 50, 10, 25, 40): [0, 20, 1, 10, 1], (25, 40, 20, 10, 50, 5): [0, 50, 1, 10, 1]})

    def test_higher_than_the_eye(self):
        # Rises of 90 * 40 / 80 and 90 * 90 / 80.
        self.check(LEVEL, {
            (60, 90, 60, 0, 20, 50): [0, 20, 1, 5, 1],
            (60, 90, 60, 0, 20, 100): [0, 20, 1, -5, 4],
        })

    def test_feet_on_the_two_sides_of_the_horizon(self):
        self.check(LEVEL, {
            (30, 6, 30, 8, 60, 90): [0, 60, 1, 50, 1],
            (60, 90, 60, 50, 30, 6): [0, 30, 1, 8, 1],
            (30, 6, 30, 2, 60, 90): [0, 60, 1, 170, 1],
        })

    def test_up_beyond_all_aslant(self):
        # Up is 3, 4, 0: a rise of 5 on a foot that makes 40 is one of 10 on one that makes 80,
        # of 81/8 on one that makes 81.
        line = [START, LEVEL_HORIZON, ("up", 3, 4, 0), ("post", 35, 50, 20, 30, 2)]
        self.check(line, {
            (35, 50, 20, 30, 60, 90): [0, 30, 1, 50, 1],
            (35, 50, 20, 30, 60, 91): [0, 237, 8, 101, 2],
        })

    def test_up_at_a_point(self):
        # A rise of 1/3 on a foot that makes 70 is one of 1/7 on one that makes 30, of 4/21
        # on one that makes 40: (21 * 30 - 4 * 50) by 17, (21 * 50 - 4 * 190) by 17.
        seen = {
            (50, 80, 50, 25, 20, 40): [0, 15, 1, 15, 1],
            (50, 80, 50, 25, 30, 50): [0, 430, 17, 290, 17],
        }
        self.check(TILTED, seen)
        self.check(TILTED + [("up", -50, -190, -1)], seen)

    def test_beyond_all(self):
        # A rise of 1/17 on a foot that makes 4 is one of 1 on one that makes 68.
        seen = {(50, 14, 50, 3, u, 78): [-6] for u in (0, 30, 50, 100)}
        # A rise of -1/2 on a foot that makes 3 is one of 1 on one that makes -6.
        seen[(50, 13, 50, 72, 20, 4)] = [-6]
        self.check(TILTED, seen)
        self.check(TILTED + [("up", -50, -190, -1)], seen)
        self.check(TILTED + [("horizon", 0, -7, 70)], seen)

    def test_on_both_sides_of_beyond_all(self):
        # Rises of 67/68 and 69/68: 68 * 30 - 67 * 50 by 1, 68 * 77 - 67 * 190 by 1;
        # 68 * 30 - 69 * 50 by -1, 68 * 79 - 69 * 190 by -1.
        self.check(TILTED, {
            (50, 14, 50, 3, 30, 77): [0, -1310, 1, -7494, 1],
            (50, 14, 50, 3, 30, 79): [0, 1410, 1, 7738, 1],
        })

    def test_a_horizon_with_a_factor(self):
        for factor in (3, 1000, -1, -1000):
            self.check(LEVEL + [("horizon", 0, factor, -10 * factor)], {
                (60, 90, 60, 60, 0, 30): [0, 0, 1, 45, 2],
                (60, 50, 60, 60, 20, 90): [0, 20, 1, 110, 1],
                (60, 90, 60, 50, 30, 6): [0, 30, 1, 8, 1],
            })

    def test_whichever_the_post(self):
        for post in (("post", 20, 50, 20, 30, 999), ("post", 0, 90, 0, 100, 7), ("post", 5, 4, 5, 0, 1)):
            self.check(LEVEL + [post], {
                (60, 90, 60, 60, 0, 30): [0, 0, 1, 45, 2],
                (60, 50, 60, 60, 20, 90): [0, 20, 1, 110, 1],
            })

    def test_nothing_stands_so(self):
        self.check(LEVEL, {
            (60, 90, 61, 50, 20, 50): [-33],
            (30, 10, 30, 5, 20, 50): [-33],
            (30, 10, 30, 10, 20, 50): [-33],
        })
        self.check(NEAR, {
            (50, 100, 50, 40, 20, 50): [-33],
            (50, 70, 50, 100, 20, 50): [-33],
            (50, 100, 50, 100, 20, 50): [-33],
        })

    def test_the_other_foot_on_the_horizon(self):
        self.check(LEVEL, {(20, 50, 20, 30, 60, 10): [-33], (60, 90, 60, 90, 60, 10): [-33]})
        self.check(TILTED, {(50, 80, 50, 25, 50, 10): [-33]})

    def test_the_other_foot_being_up(self):
        for up in (NEAR_UP, ("up", -50, -100, -1)):
            self.check(NEAR + [up], {
                (50, 70, 50, 40, 50, 100): [-33],
                (50, 70, 50, 70, 50, 100): [-33],
                # A rise of 1/2 * 90 / 60: (160 - 150) by 1, (400 - 300) by 1.
                (50, 70, 50, 40, 40, 100): [0, 10, 1, 100, 1],
            })

    def test_not_standing_ahead_of_beyond_all(self):
        # A rise of 60/90 on a foot that makes 60 is one of 1 on one that makes 90: up does.
        self.check(NEAR, {(50, 70, 50, 10, 40, 100): [-6], (50, 70, 50, 10, 50, 100): [-33]})


class Rule(unittest.TestCase):
    """The post would be n times its own height, by how high that is."""

    def check(self, line, seen):
        """What is seen (foot, head), were it n high, gives those answers."""
        for numbers, answer in seen.items():
            with self.subTest(line=line, numbers=numbers):
                self.assertEqual(last(line + [("rule",) + numbers]), answer)

    def test_whole(self):
        # The post is 2 high, and these are 2, 3/2 and 14/15.
        self.check(LEVEL, {
            (60, 90, 60, 50, 2): [0, 2, 1],
            (60, 90, 60, 50, 5): [0, 5, 1],
            (60, 90, 60, 60, 3): [0, 4, 1],
            (60, 40, 60, 33, 7): [0, 15, 1],
        })

    def test_a_fraction(self):
        self.check(LEVEL, {
            (60, 90, 60, 60, 1): [0, 4, 3],
            (60, 90, 60, 60, 1000): [0, 4000, 3],
            (60, 40, 60, 33, 3): [0, 45, 7],
        })

    def test_below_0(self):
        # These are -1, -1/2 and, on a foot beyond the horizon, -4/7 high.
        self.check(LEVEL, {
            (60, 50, 60, 60, 3): [0, -6, 1],
            (60, 90, 60, 100, 1): [0, -4, 1],
            (30, 3, 30, 2, 1): [0, -7, 2],
            (30, 3, 30, 2, 6): [0, -21, 1],
        })

    def test_a_foot_beyond_the_horizon(self):
        self.check(LEVEL, {(30, 6, 30, 8, 9): [0, 9, 1], (30, 6, 30, 10, 1): [0, 1, 2]})

    def test_a_head_on_the_horizon_and_higher_than_the_eye(self):
        self.check(LEVEL, {(60, 90, 60, 10, 6): [0, 3, 1], (60, 90, 60, 0, 9): [0, 4, 1]})

    def test_up_at_a_point(self):
        # The post is 3 high, and these are 3/4, 63/44, -63/19 and 3.
        seen = {
            (30, 50, 29, 43, 1): [0, 4, 1],
            (30, 50, 28, 36, 1): [0, 44, 21],
            (50, 5, 50, 0, 2): [0, -38, 21],
            (20, 40, 15, 15, 11): [0, 11, 1],
        }
        self.check(TILTED, seen)
        self.check(TILTED + [("up", -50, -190, -1)], seen)

    def test_the_post_itself(self):
        self.check(LEVEL, {(20, 50, 20, 30, 9): [0, 9, 1]})
        self.check(TILTED, {(50, 80, 50, 25, 1000): [0, 1000, 1]})
        self.check(NEAR, {(50, 70, 50, 40, 1): [0, 1, 1]})

    def test_however_high_the_post_is_told(self):
        for n in (1, 3, 1000):
            self.check(LEVEL + [("post", 20, 50, 20, 30, n)], {(60, 90, 60, 60, 3): [0, 4, 1]})

    def test_a_horizon_with_a_factor(self):
        for factor in (3, 1000, -1, -1000):
            self.check(LEVEL + [("horizon", 0, factor, -10 * factor)], {
                (60, 90, 60, 60, 1): [0, 4, 3],
                (60, 50, 60, 60, 3): [0, -6, 1],
                (30, 3, 30, 2, 1): [0, -7, 2],
            })

    def test_foot_and_head_the_same(self):
        self.check(LEVEL, {(60, 90, 60, 90, 1): [-33], (20, 50, 20, 50, 1): [-33], (60, 10, 60, 10, 1): [-33]})
        self.check(TILTED, {(30, 50, 30, 50, 5): [-33]})

    def test_nothing_stands_so(self):
        self.check(LEVEL, {(60, 90, 61, 50, 1): [-33], (30, 10, 30, 5, 1): [-33]})
        for up in (NEAR_UP, ("up", -50, -100, -1)):
            self.check(NEAR + [up], {
                (50, 100, 50, 40, 1): [-33],
                (50, 70, 50, 100, 1): [-33],
                (50, 100, 50, 100, 1): [-33],
            })

    def test_it_tells_and_does_not_take(self):
        self.assertEqual(behind(LEVEL, [EYE, ("rule", 60, 90, 60, 60, 3), EYE]), [[0, 4, 1]] * 3)


class Order(unittest.TestCase):
    """Where several refusals would do, the first named is answered."""

    FALLING = (("like", 60, 90, 61, 50, 20, 50), ("like", 20, 50, 20, 30, 60, 10), ("rule", 60, 90, 61, 50, 3),
               ("rule", 60, 90, 60, 90, 3))
    BEYOND = ("like", 50, 14, 50, 3, 30, 78)

    def wrong_calls(self, call):
        for place in range(len(call) - 1):
            of_a_height = (call[0], place) == ("rule", 4)
            for wrong in ((0, 1001) if of_a_height else (-1, 101)) + (LEAST, MOST):
                yield put(call, place, wrong)

    def test_out_of_range_ahead_of_all_others(self):
        for call in self.FALLING:
            for wrong_call in self.wrong_calls(call):
                with self.subTest(call=wrong_call):
                    self.assertEqual(last([START, wrong_call]), [-22])
                    self.assertEqual(last(LEVEL + [wrong_call]), [-22])

    def test_out_of_range_ahead_of_beyond_all(self):
        self.assertEqual(last(TILTED + [self.BEYOND]), [-6])
        self.assertEqual(last(TILTED + [put(self.BEYOND, 4, 101)]), [-22])
        self.assertEqual(last(TILTED + [put(self.BEYOND, 4, -1)]), [-22])

    def test_not_ready_ahead_of_not_standing_and_beyond_all(self):
        for line in UNREADY:
            with self.subTest(line=line):
                self.assertEqual(behind(line, list(self.FALLING) + [self.BEYOND]), [[-16]] * 5)


if __name__ == "__main__":
    unittest.main()
