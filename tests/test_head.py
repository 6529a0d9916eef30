"""The call head, with answers that were worked out by hand."""

import unittest

from tests.lines import LEAST, LEVEL, LEVEL_HORIZON, LEVEL_UP, MOST, NEAR, START, TILTED, last


class Level(unittest.TestCase):
    """Up beyond all: on a foot that makes m, p by q is a rise of m p / (4 q)."""

    def head(self, *numbers):
        return last(LEVEL + [("head",) + numbers])

    def test_whole(self):
        self.assertEqual(self.head(60, 90, 2, 1), [0, 60, 1, 50, 1])
        self.assertEqual(self.head(20, 50, 2, 1), [0, 20, 1, 30, 1])

    def test_the_height_told_otherwise(self):
        self.assertEqual(self.head(60, 90, 4, 2), [0, 60, 1, 50, 1])
        self.assertEqual(self.head(60, 90, 1000, 500), [0, 60, 1, 50, 1])

    def test_a_fraction(self):
        self.assertEqual(self.head(60, 90, 1, 3), [0, 60, 1, 250, 3])
        self.assertEqual(self.head(60, 90, 7, 40), [0, 60, 1, 173, 2])

    def test_on_the_horizon(self):
        self.assertEqual(self.head(60, 90, 4, 1), [0, 60, 1, 10, 1])
        self.assertEqual(self.head(7, 3, 4, 1), [0, 7, 1, 10, 1])

    def test_zero_high(self):
        self.assertEqual(self.head(60, 90, 0, 1), [0, 60, 1, 90, 1])
        self.assertEqual(self.head(60, 90, 0, 1000), [0, 60, 1, 90, 1])

    def test_below_the_floor(self):
        self.assertEqual(self.head(60, 90, -1, 1), [0, 60, 1, 110, 1])
        self.assertEqual(self.head(60, 90, -1, 3), [0, 60, 1, 290, 3])

    def test_zero_is_told_as_0_1(self):
        self.assertEqual(self.head(0, 90, 2, 1), [0, 0, 1, 50, 1])
        self.assertEqual(self.head(60, 90, 9, 2), [0, 60, 1, 0, 1])
        self.assertEqual(self.head(0, 0, 0, 5), [0, 0, 1, 0, 1])

    def test_below_zero(self):
        self.assertEqual(self.head(60, 90, 5, 1), [0, 60, 1, -10, 1])
        self.assertEqual(self.head(60, 90, 14, 3), [0, 60, 1, -10, 3])

    def test_a_foot_beyond_the_horizon(self):
        self.assertEqual(self.head(30, 6, 2, 1), [0, 30, 1, 8, 1])
        self.assertEqual(self.head(30, 6, -2, 1), [0, 30, 1, 4, 1])

    def test_a_foot_on_the_horizon(self):
        self.assertEqual(self.head(30, 10, 2, 1), [-33])
        self.assertEqual(self.head(30, 10, 0, 1), [-33])

    def test_up_beyond_all_aslant(self):
        # Up is 3, 4, 0: the post's rise is 5, its foot makes 40, so p by q on a foot that
        # makes m is a rise of m p / (16 q): here 80 / 16 = 5 and 5/4.
        line = [START, LEVEL_HORIZON, ("up", 3, 4, 0), ("post", 35, 50, 20, 30, 2)]
        self.assertEqual(last(line + [("head", 60, 90, 1, 1)]), [0, 45, 1, 70, 1])
        self.assertEqual(last(line + [("head", 60, 90, 1, 4)]), [0, 225, 4, 85, 1])
        self.assertEqual(last(line + [("head", 61, 91, 1, 1)]), [0, 733, 16, 283, 4])

    def test_never_beyond_all(self):
        for p in (-1000, -16, -1, 0, 1, 16, 1000):
            for q in (1, 3, 1000):
                self.assertEqual(self.head(60, 90, p, q)[:3], [0, 60, 1])


class Tilted(unittest.TestCase):
    """Up at 50, 190: on a foot that makes m, p by q is a rise of m p / (630 q)."""

    def head(self, *numbers):
        return last(TILTED + [("head",) + numbers])

    def test_whole(self):
        self.assertEqual(self.head(50, 80, 3, 1), [0, 50, 1, 25, 1])
        self.assertEqual(self.head(30, 50, 3, 4), [0, 29, 1, 43, 1])
        self.assertEqual(self.head(30, 50, 63, 20), [0, 25, 1, 15, 1])

    def test_both_fractions(self):
        # The rise is 4/63: (63 * 30 - 4 * 50) by 59 and (63 * 50 - 4 * 190) by 59.
        self.assertEqual(self.head(30, 50, 1, 1), [0, 1690, 59, 2390, 59])
        # The rise is -4/63: (63 * 30 + 4 * 50) by 67 and (63 * 50 + 4 * 190) by 67.
        self.assertEqual(self.head(30, 50, -1, 1), [0, 2090, 67, 3910, 67])

    def test_each_fraction_by_itself_has_nothing_in_common(self):
        # The rise is 2/63 (foot makes 40, height 1/2): 1890 - 100 by 61, 3150 - 380 by 61.
        self.assertEqual(self.head(30, 50, 1, 2), [0, 1790, 61, 2770, 61])
        # The rise is 1/7 (foot makes 90, height 1): 0 * 7 - 50 by 6 and 700 - 190 by 6.
        self.assertEqual(self.head(0, 100, 1, 1), [0, -25, 3, 85, 1])

    def test_beyond_all(self):
        # A rise of 1 on a foot that makes 40 is 630 / 40 high.
        self.assertEqual(self.head(30, 50, 63, 4), [-6])
        self.assertEqual(self.head(30, 50, 630, 40), [-6])
        self.assertEqual(self.head(50, 80, 9, 1), [-6])
        self.assertEqual(self.head(0, 100, 7, 1), [-6])

    def test_on_both_sides_of_beyond_all(self):
        # Rises 64/63 and 62/63: 1890 - 3200 by -1, 3150 - 12160 by -1; and the other way.
        self.assertEqual(self.head(30, 50, 16, 1), [0, 1310, 1, 9010, 1])
        self.assertEqual(self.head(30, 50, 31, 2), [0, -1210, 1, -8630, 1])

    def test_beyond_all_below_the_floor(self):
        # A foot beyond the horizon makes -5 or -10: 630 / -5 and 630 / -10.
        self.assertEqual(self.head(50, 5, -126, 1), [-6])
        self.assertEqual(self.head(50, 0, -63, 1), [-6])
        self.assertNotEqual(self.head(50, 5, 126, 1), [-6])

    def test_zero_high(self):
        self.assertEqual(self.head(30, 50, 0, 7), [0, 30, 1, 50, 1])

    def test_on_the_horizon(self):
        self.assertEqual(self.head(50, 80, 7, 2), [0, 50, 1, 10, 1])
        self.assertEqual(self.head(25, 40, 7, 2), [0, 20, 1, 10, 1])

    def test_a_foot_on_the_horizon(self):
        self.assertEqual(self.head(50, 10, 1, 1), [-33])


class Near(unittest.TestCase):
    """Up is seen, at 50, 100."""

    def test_a_foot_that_is_up(self):
        self.assertEqual(last(NEAR + [("head", 50, 100, 1, 1)]), [-33])
        self.assertEqual(last(NEAR + [("head", 50, 100, 0, 1)]), [-33])
        self.assertEqual(last(NEAR + [("up", -50, -100, -1), ("head", 50, 100, 1, 1)]), [-33])

    def test_beside_up(self):
        # The foot makes 90, so 1 by 1 is a rise of 3/4: (160 - 150) by 1, (400 - 300) by 1.
        self.assertEqual(last(NEAR + [("head", 40, 100, 1, 1)]), [0, 10, 1, 100, 1])


class Order(unittest.TestCase):
    """Where several refusals would do, the first named is answered."""

    WRONG = ((0, -1), (0, 101), (1, -1), (1, 101), (2, -1001), (2, 1001), (3, 0), (3, 1001),
             (0, LEAST), (1, LEAST), (2, LEAST), (3, LEAST), (0, MOST), (1, MOST), (2, MOST), (3, MOST))

    def wrong_calls(self, numbers):
        for place, wrong in self.WRONG:
            changed = list(numbers)
            changed[place] = wrong
            yield ("head",) + tuple(changed)

    def test_out_of_range_ahead_of_not_ready(self):
        for call in self.wrong_calls([60, 90, 2, 1]):
            with self.subTest(call=call):
                self.assertEqual(last([START, call]), [-22])

    def test_out_of_range_ahead_of_not_standing(self):
        for call in self.wrong_calls([30, 10, 2, 1]):
            with self.subTest(call=call):
                self.assertEqual(last(LEVEL + [call]), [-22])

    def test_out_of_range_ahead_of_beyond_all(self):
        # 9 by 1 on that foot is beyond all; 1008 by 112 and -9 by -1 are as high.
        self.assertEqual(last(TILTED + [("head", 50, 80, 9, 1)]), [-6])
        self.assertEqual(last(TILTED + [("head", 50, 80, 1008, 112)]), [-22])
        self.assertEqual(last(TILTED + [("head", 50, 80, -9, -1)]), [-22])

    def test_not_ready_ahead_of_not_standing(self):
        self.assertEqual(last([START, LEVEL_HORIZON, LEVEL_UP, ("head", 30, 10, 2, 1)]), [-16])
        self.assertEqual(last([START, LEVEL_HORIZON, ("up", 50, 100, 1), ("head", 50, 100, 2, 1)]), [-16])

    def test_not_standing_ahead_of_beyond_all(self):
        # The foot is up and makes 90, so that 120 / 90 high is a rise of 1.
        self.assertEqual(last(NEAR + [("head", 50, 100, 4, 3)]), [-33])
        self.assertEqual(last(NEAR + [("head", 40, 100, 4, 3)]), [-6])


if __name__ == "__main__":
    unittest.main()
