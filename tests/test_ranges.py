"""Every range that is named, at both its ends and one beyond, and all numbers far out."""

import unittest

from tests.lines import LEAST, LEVEL, LEVEL_HORIZON, LEVEL_UP, MOST, START, ask, behind, last, put


class Ranges(unittest.TestCase):
    def check(self, line, call, place, least, most):
        """At its ends the number isn't refused with -22; one beyond, and far out, it is."""
        for number in (least, most):
            with self.subTest(call=call[0], place=place, number=number):
                self.assertNotEqual(last(line + [put(call, place, number)]), [-22])
        for number in (least - 1, most + 1, LEAST, MOST):
            with self.subTest(call=call[0], place=place, number=number):
                self.assertEqual(last(line + [put(call, place, number)]), [-22])

    def check_told(self, call, place, least, most):
        """The same of a call that answers 0 if it isn't refused."""
        self.check([START], call, place, least, most)
        for number in (least, most):
            with self.subTest(call=call[0], place=place, number=number):
                self.assertEqual(last([START, put(call, place, number)]), [0])


class Horizon(Ranges):
    def test_each_number(self):
        call = ("horizon", 1, 1, 1)
        self.check_told(call, 0, -1000, 1000)
        self.check_told(call, 1, -1000, 1000)
        self.check_told(call, 2, -100000, 100000)

    def test_a_and_b_zero(self):
        for c in (-100000, -1, 0, 1, 100000):
            self.assertEqual(ask([START, ("horizon", 0, 0, c)])[1], [-22])

    def test_one_of_them_zero(self):
        for a, b in ((0, 1), (1, 0), (0, -1), (-1, 0)):
            for c in (-5, 0, 5):
                with self.subTest(a=a, b=b, c=c):
                    self.assertEqual(last([START, ("horizon", a, b, c)]), [0])

    def test_all_at_once(self):
        self.assertEqual(ask([START, ("horizon", -1000, -1000, -100000), ("horizon", 1000, 1000, 100000)])[1:],
                         [[0], [0]])
        self.assertEqual(ask([START, ("horizon", LEAST, LEAST, LEAST), ("horizon", MOST, MOST, MOST)])[1:],
                         [[-22], [-22]])


class Up(Ranges):
    def test_each_number(self):
        call = ("up", 1, 1, 1)
        self.check_told(call, 0, -1000, 1000)
        self.check_told(call, 1, -1000, 1000)
        self.check_told(call, 2, -1, 1)

    def test_the_third_number(self):
        thirds = (-2, -1, 0, 1, 2)
        self.assertEqual(ask([START] + [("up", 3, 4, third) for third in thirds])[1:], [[-22], [0], [0], [0], [-22]])

    def test_all_zero(self):
        self.assertEqual(ask([START, ("up", 0, 0, 0)])[1], [-22])

    def test_not_all_zero(self):
        for call in (("up", 1, 0, 0), ("up", 0, 1, 0), ("up", 0, 0, 1), ("up", 0, 0, -1)):
            with self.subTest(call=call):
                self.assertEqual(ask([START, call])[1], [0])

    def test_all_at_once(self):
        self.assertEqual(ask([START, ("up", -1000, -1000, -1), ("up", 1000, 1000, 1)])[1:], [[0], [0]])
        self.assertEqual(ask([START, ("up", LEAST, LEAST, LEAST), ("up", MOST, MOST, MOST)])[1:], [[-22], [-22]])


class Post(Ranges):
    def test_each_number(self):
        call = ("post", 20, 50, 20, 30, 2)
        for place in range(4):
            self.check_told(call, place, 0, 100)
        self.check_told(call, 4, 1, 1000)

    def test_all_at_once(self):
        self.assertEqual(ask([START, ("post", 0, 0, 0, 0, 1), ("post", 100, 100, 100, 100, 1000)])[1:], [[0], [0]])
        self.assertEqual(ask([START, ("post",) + (LEAST,) * 5, ("post",) + (MOST,) * 5])[1:], [[-22], [-22]])

    def test_heights_at_both_ends(self):
        for n, eye in ((1, [0, 2, 1]), (1000, [0, 2000, 1])):
            self.assertEqual(last(LEVEL + [("post", 20, 50, 20, 30, n), ("eye",)]), eye)


class Height(Ranges):
    def test_each_number(self):
        for place in range(4):
            self.check(LEVEL, ("height", 60, 90, 60, 50), place, 0, 100)

    def test_at_the_ends(self):
        # A foot that makes 90 and a rise of 100; one beyond the horizon that makes -10.
        self.assertEqual(last(LEVEL + [("height", 0, 100, 0, 0)]), [0, 40, 9])
        self.assertEqual(last(LEVEL + [("height", 100, 0, 100, 100)]), [0, 40, 1])

    def test_all_at_once(self):
        self.assertEqual(ask(LEVEL + [("height",) + (LEAST,) * 4, ("height",) + (MOST,) * 4])[4:], [[-22], [-22]])


class Head(Ranges):
    def test_each_number(self):
        call = ("head", 60, 90, 2, 1)
        self.check(LEVEL, call, 0, 0, 100)
        self.check(LEVEL, call, 1, 0, 100)
        self.check(LEVEL, call, 2, -1000, 1000)
        self.check(LEVEL, call, 3, 1, 1000)

    def test_at_the_ends(self):
        # The foot makes 80, so a height of h is a rise of 20 h.
        self.assertEqual(last(LEVEL + [("head", 60, 90, 1000, 1)]), [0, 60, 1, -19910, 1])
        self.assertEqual(last(LEVEL + [("head", 60, 90, -1000, 1)]), [0, 60, 1, 20090, 1])
        self.assertEqual(last(LEVEL + [("head", 60, 90, 1, 1000)]), [0, 60, 1, 4499, 50])
        self.assertEqual(last(LEVEL + [("head", 60, 90, 1000, 1000)]), [0, 60, 1, 70, 1])
        self.assertEqual(last(LEVEL + [("head", 0, 100, 2, 1)]), [0, 0, 1, 55, 1])
        self.assertEqual(last(LEVEL + [("head", 100, 0, 2, 1)]), [0, 100, 1, 5, 1])

    def test_all_at_once(self):
        self.assertEqual(ask(LEVEL + [("head",) + (LEAST,) * 4, ("head",) + (MOST,) * 4])[4:], [[-22], [-22]])


class Points(Ranges):
    """The calls whose numbers are those of points, rule's height apart."""

    def check_points(self, call, count):
        """Each of the first numbers is a point's, and is refused out of range, ready or not."""
        for place in range(count):
            self.check(LEVEL, call, place, 0, 100)
            self.check([START], call, place, 0, 100)

    def check_all_at_once(self, name, count):
        calls = [(name,) + (number,) * count for number in (LEAST, MOST, -1, 101)]
        self.assertEqual(behind(LEVEL, calls), [[-22]] * 4)
        self.assertEqual(behind([START], calls), [[-22]] * 4)

    def test_taller(self):
        self.check_points(("taller", 60, 90, 60, 50, 20, 50, 20, 30), 8)
        self.check_all_at_once("taller", 8)

    def test_taller_at_the_ends(self):
        # Rises of 100 on feet that make 90 and -10: 40/9 and 40 high, the other way below 0.
        self.assertEqual(behind(LEVEL, [
            ("taller", 0, 100, 0, 0, 100, 0, 100, 100),
            ("taller", 0, 0, 0, 100, 100, 100, 100, 0),
            ("taller", 0, 0, 0, 0, 100, 100, 100, 100),
        ]), [[2], [1], [0]])

    def test_side(self):
        self.check_points(("side", 60, 90), 2)
        self.check_all_at_once("side", 2)

    def test_side_at_the_ends(self):
        calls = [("side", 0, 0), ("side", 100, 0), ("side", 0, 100), ("side", 100, 100)]
        self.assertEqual(behind(LEVEL, calls), [[2], [2], [1], [1]])

    def test_like(self):
        self.check_points(("like", 20, 50, 20, 30, 60, 90), 6)
        self.check_all_at_once("like", 6)

    def test_like_at_the_ends(self):
        # A rise of 100 on a foot that makes 90 is one of 100 / -9 on a foot that makes -10.
        self.assertEqual(behind(LEVEL, [("like", 0, 100, 0, 0, 100, 0), ("like", 100, 0, 100, 100, 0, 100)]),
                         [[0, 100, 1, 100, 9], [0, 0, 1, -800, 1]])

    def test_rule(self):
        call = ("rule", 60, 90, 60, 50, 2)
        self.check_points(call, 4)
        self.check(LEVEL, call, 4, 1, 1000)
        self.check([START], call, 4, 1, 1000)
        self.check_all_at_once("rule", 5)

    def test_rule_at_the_ends(self):
        # What is 2 high were 1 or 1000; then 40/9 and 40 were 10.
        self.assertEqual(behind(LEVEL, [
            ("rule", 60, 90, 60, 50, 1),
            ("rule", 60, 90, 60, 50, 1000),
            ("rule", 0, 100, 0, 0, 10),
            ("rule", 100, 0, 100, 100, 10),
        ]), [[0, 1, 1], [0, 1000, 1], [0, 9, 2], [0, 1, 2]])

    def test_stands(self):
        self.check_points(("stands", 60, 90, 60, 50), 4)
        self.check_all_at_once("stands", 4)

    def test_stands_at_the_ends(self):
        calls = [("stands", 0, 0, 0, 100), ("stands", 100, 100, 100, 0), ("stands", 0, 0, 100, 100)]
        self.assertEqual(behind(LEVEL, calls), [[1], [1], [0]])

    def test_meet(self):
        self.check_points(("meet", 60, 90, 20, 30), 4)
        self.check_all_at_once("meet", 4)

    def test_meet_at_the_ends(self):
        calls = [("meet", 0, 0, 100, 100), ("meet", 100, 0, 0, 100), ("meet", 0, 100, 0, 0)]
        self.assertEqual(behind(LEVEL, calls), [[0, 10, 1, 10, 1], [0, 90, 1, 10, 1], [0, 0, 1, 10, 1]])


class FarOutLines(unittest.TestCase):
    def test_everything_at_its_greatest(self):
        # The post's rise is 100 / 1000, its foot makes 100000 + 100000 - 100000, and up
        # makes 1000 * 1000: the eye is 1000 * 10 * 100000 / 1000000 high.
        line = [START, ("horizon", 1000, 1000, -100000), ("up", 0, 1000, 0), ("post", 100, 100, 100, 0, 1000), ("eye",)]
        self.assertEqual(ask(line), [[0], [0], [0], [0], [0, 1000, 1]])

    def test_a_horizon_far_off(self):
        # The post's foot makes 100000 + 50, up 1: 2 / 20 * 100050.
        line = [START, ("horizon", 0, 1, 100000), LEVEL_UP, ("post", 20, 50, 20, 30, 2), ("eye",)]
        self.assertEqual(last(line), [0, 10005, 1])

    def test_a_horizon_told_with_great_numbers(self):
        # 1000 v - 10000 is 0 where v is 10.
        line = [START, ("horizon", 0, 1000, -10000), ("up", 0, 1000, 0), ("post", 20, 50, 20, 30, 2), ("eye",)]
        self.assertEqual(last(line), [0, 4, 1])
        self.assertEqual(last([START, LEVEL_HORIZON] + line[2:]), [0, 4, 1])


if __name__ == "__main__":
    unittest.main()
