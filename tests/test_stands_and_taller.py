"""The calls stands and taller, with answers that were worked out by hand."""

import unittest

from tests.lines import LEAST, LEVEL, LEVEL_HORIZON, MOST, NEAR, NEAR_UP, START, TILTED, UNREADY, behind, last, put


class Stands(unittest.TestCase):
    def check(self, line, answer, seen):
        """Each of these, a foot and a head, is answered so."""
        for numbers in seen:
            with self.subTest(line=line, numbers=numbers):
                self.assertEqual(last(line + [("stands",) + numbers]), [answer])

    def test_up_beyond_all(self):
        self.check(LEVEL, 1, [(60, 90, 60, 50), (20, 50, 20, 30), (0, 0, 0, 100), (100, 100, 100, 99)])
        self.check(LEVEL, 0, [(60, 90, 61, 50), (60, 90, 59, 90), (0, 100, 1, 0)])

    def test_up_beyond_all_aslant(self):
        line = [START, LEVEL_HORIZON, ("up", 3, 4, 0), ("post", 35, 50, 20, 30, 2)]
        self.check(line, 1, [(60, 90, 45, 70), (60, 90, 57, 86), (60, 90, 63, 94)])
        self.check(line, 0, [(60, 90, 60, 70), (60, 90, 57, 94), (60, 90, 45, 71)])

    def test_up_at_a_point(self):
        for up in (("up", 50, 190, 1), ("up", -50, -190, -1)):
            self.check(TILTED + [up], 1, [(50, 80, 50, 25), (30, 50, 29, 43), (30, 50, 31, 57), (0, 80, 5, 91)])
            self.check(TILTED + [up], 0, [(30, 50, 29, 42), (30, 50, 30, 43), (50, 80, 49, 80)])

    def test_a_foot_on_the_horizon(self):
        self.check(LEVEL, 0, [(30, 10, 30, 5), (30, 10, 30, 50), (30, 10, 30, 10)])
        self.check(TILTED, 0, [(50, 10, 50, 5), (50, 10, 50, 10)])

    def test_a_head_on_the_horizon(self):
        self.check(LEVEL, 1, [(60, 90, 60, 10), (60, 5, 60, 10)])
        self.check(TILTED, 1, [(25, 40, 20, 10)])

    def test_a_foot_beyond_the_horizon(self):
        self.check(LEVEL, 1, [(30, 6, 30, 8), (30, 6, 30, 2), (30, 6, 30, 90)])
        self.check(LEVEL, 0, [(30, 6, 31, 8)])

    def test_a_head_below_its_foot_and_just_at_it(self):
        self.check(LEVEL, 1, [(60, 50, 60, 60), (60, 90, 60, 90), (60, 5, 60, 5)])
        self.check(TILTED, 1, [(50, 70, 50, 90), (30, 50, 30, 50)])

    def test_foot_or_head_being_up(self):
        for up in (NEAR_UP, ("up", -50, -100, -1)):
            self.check(NEAR + [up], 0, [(50, 100, 50, 40), (50, 70, 50, 100), (50, 100, 50, 100), (50, 100, 9, 9)])
            self.check(NEAR + [up], 1, [(50, 99, 50, 98), (40, 100, 30, 100), (80, 100, 20, 100)])

    def test_the_post_itself(self):
        self.check(LEVEL, 1, [(20, 50, 20, 30)])
        self.check(TILTED, 1, [(50, 80, 50, 25)])
        self.check(NEAR, 1, [(50, 70, 50, 40)])


class Taller(unittest.TestCase):
    def check(self, line, highest_first):
        """These, each a foot and a head, come one below the other; each is as high as itself."""
        for place, first in enumerate(highest_first):
            for other, second in enumerate(highest_first):
                answer = 0 if place == other else 1 if place < other else 2
                with self.subTest(line=line, first=first, second=second):
                    self.assertEqual(last(line + [("taller",) + first + second]), [answer])

    def check_alike(self, line, seen):
        for first in seen:
            for second in seen:
                with self.subTest(line=line, first=first, second=second):
                    self.assertEqual(last(line + [("taller",) + first + second]), [0])

    def test_level(self):
        # A rise of r on a foot that makes m is 4 r / m high: 9/2, 4, 3, 2, 3/2, 1, 14/15.
        self.check(LEVEL, [(60, 90, 60, 0), (60, 90, 60, 10), (0, 30, 0, 15), (60, 90, 60, 50), (60, 90, 60, 60),
                           (0, 50, 0, 40), (60, 40, 60, 33)])

    def test_heights_below_0_and_0_on_the_two_sides_of_the_horizon(self):
        # 4, 2, 1/22, 2/45, 0, -1/2, -4/7, -1, -4.
        self.check(LEVEL, [(30, 6, 30, 10), (30, 6, 30, 8), (0, 98, 0, 97), (60, 100, 60, 99), (60, 90, 60, 90),
                           (60, 90, 60, 100), (30, 3, 30, 2), (60, 50, 60, 60), (30, 6, 30, 2)])

    def test_alike(self):
        self.check_alike(LEVEL, [(60, 90, 60, 50), (20, 50, 20, 30), (0, 30, 0, 20), (30, 6, 30, 8)])
        self.check_alike(LEVEL, [(60, 90, 60, 90), (60, 5, 60, 5), (0, 0, 0, 0)])

    def test_alike_below_0(self):
        # 4 * -10 / 40, 4 * -5 / 20 and 4 * 1 / -4.
        self.check_alike(LEVEL, [(60, 50, 60, 60), (0, 30, 0, 35), (9, 6, 9, 5)])

    def test_as_high_as_the_eye(self):
        self.check_alike(LEVEL, [(60, 90, 60, 10), (7, 3, 7, 10), (0, 11, 0, 10)])
        self.check_alike(TILTED, [(50, 80, 50, 10), (25, 40, 20, 10), (50, 5, 50, 10)])

    def test_up_at_a_point(self):
        # A rise of r on a foot that makes m is 630 r / m high:
        # 36/5, 72/19, 7/2, 63/20, 3, 3/2, 63/44, 3/4, 0, -63/76, -1, -63/19.
        highest_first = [(50, 5, 50, 15), (50, 80, 50, 0), (50, 80, 50, 10), (30, 50, 25, 15), (20, 40, 15, 15),
                         (50, 80, 50, 58), (30, 50, 28, 36), (30, 50, 29, 43), (30, 50, 30, 50), (30, 50, 31, 57),
                         (0, 80, 5, 91), (50, 5, 50, 0)]
        self.check(TILTED, highest_first)
        self.check(TILTED + [("up", -50, -190, -1)], highest_first)

    def test_a_horizon_with_a_factor(self):
        highest_first = [(60, 90, 60, 50), (60, 90, 60, 60), (60, 90, 60, 90), (30, 3, 30, 2), (60, 50, 60, 60)]
        for factor in (2, 1000, -1, -1000):
            self.check(LEVEL + [("horizon", 0, factor, -10 * factor)], highest_first)
            self.check(LEVEL + [("up", 0, factor, 0)], highest_first)

    def test_a_post_whose_head_is_below_its_foot(self):
        # A rise of r is now -12 r / m high: 3, 0, -9/2, -6.
        self.check(LEVEL + [("post", 20, 50, 20, 60, 3)],
                   [(60, 50, 60, 60), (60, 90, 60, 90), (60, 90, 60, 60), (60, 90, 60, 50)])

    def test_a_post_beyond_the_horizon(self):
        # Its rise is 4 and its foot makes -6, so a rise of r is 2 r / 4 * -6 / m = -3 r / m high:
        # 3/4, 0, -9/8, -3/2.
        self.check(LEVEL + [("post", 20, 4, 20, 0, 2)],
                   [(60, 50, 60, 60), (60, 90, 60, 90), (60, 90, 60, 60), (60, 90, 60, 50)])

    def test_one_does_not_stand(self):
        stands = (60, 90, 60, 50)
        for falls in ((60, 90, 61, 50), (30, 10, 30, 5), (30, 10, 30, 10)):
            calls = [("taller",) + falls + stands, ("taller",) + stands + falls, ("taller",) + falls + falls]
            self.assertEqual(behind(LEVEL, calls), [[-33]] * 3)
        self.assertEqual(last(LEVEL + [("taller", 60, 90, 61, 50, 30, 10, 30, 5)]), [-33])

    def test_one_being_up(self):
        stands = (50, 70, 50, 40)
        for falls in ((50, 100, 50, 40), (50, 70, 50, 100), (50, 100, 50, 100)):
            for up in (NEAR_UP, ("up", -50, -100, -1)):
                calls = [("taller",) + falls + stands, ("taller",) + stands + falls, ("taller",) + falls + falls]
                self.assertEqual(behind(NEAR + [up], calls), [[-33]] * 3)


class Order(unittest.TestCase):
    """Where several refusals would do, the first named is answered."""

    FALLING = (("stands", 30, 10, 31, 5), ("taller", 60, 90, 61, 50, 30, 10, 30, 5))

    def test_out_of_range_ahead_of_all_others(self):
        for call in self.FALLING:
            for place in range(len(call) - 1):
                for wrong in (-1, 101, LEAST, MOST):
                    wrong_call = put(call, place, wrong)
                    with self.subTest(call=wrong_call):
                        self.assertEqual(last([START, wrong_call]), [-22])
                        self.assertEqual(last(LEVEL + [wrong_call]), [-22])

    def test_not_ready_ahead_of_not_standing(self):
        for line in UNREADY:
            with self.subTest(line=line):
                self.assertEqual(behind(line, list(self.FALLING)), [[-16], [-16]])


if __name__ == "__main__":
    unittest.main()
