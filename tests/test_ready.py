"""When it's ready, and each way in which it isn't."""

import unittest

from tests.lines import ASKED, LEVEL, LEVEL_HORIZON, LEVEL_POST, LEVEL_UP, NEAR, NEAR_UP, READY, START, STATE, TILTED
from tests.lines import TILTED_POST, ask, behind, last

NEEDING = [call for call in ASKED if call[0] not in ("ready", "meet", "state")]


class Ready(unittest.TestCase):
    def check_not(self, told):
        """It isn't ready, and each call that needs it is refused so."""
        line = [START] + told
        self.assertEqual(ask(line), [[0]] * len(line))
        names = [call[0] for call in told]
        state = [0] + [int(name in names) for name in ("horizon", "up", "post")]
        self.assertEqual(behind(line, [READY, STATE]), [[0], state])
        for call, part in zip(NEEDING, behind(line, NEEDING)):
            with self.subTest(told=told, call=call):
                self.assertEqual(part, [-16])

    def check(self, told):
        self.assertEqual(behind([START] + told, [READY, STATE]), [[1], [1, 1, 1, 1]])

    def test_the_calls_that_need_it(self):
        self.assertEqual([call[0] for call in NEEDING],
                         ["height", "eye", "head", "taller", "side", "like", "rule", "stands"])

    def test_it_is(self):
        for line in (LEVEL, TILTED, NEAR):
            self.assertEqual(last(line + [READY]), [1])

    def test_one_or_more_not_told(self):
        three = [LEVEL_HORIZON, LEVEL_UP, LEVEL_POST]
        self.check_not([])
        for call in three:
            self.check_not([call])
            self.check_not([other for other in three if other != call])
        self.check(three)

    def test_up_beyond_all_on_the_horizon(self):
        # The post would stand but for that: its foot and head are side by side.
        self.check_not([LEVEL_HORIZON, ("up", 1, 0, 0), ("post", 20, 50, 40, 50, 2)])
        self.check([("horizon", 1, 0, -10), ("up", 1, 0, 0), ("post", 20, 50, 40, 50, 2)])

    def test_up_at_a_point_on_the_horizon(self):
        for up in (("up", 20, 10, 1), ("up", -20, -10, -1)):
            self.check_not([LEVEL_HORIZON, up, LEVEL_POST])
        self.check([LEVEL_HORIZON, ("up", 20, 11, 1), LEVEL_POST])
        self.check([LEVEL_HORIZON, ("up", 20, 9, 1), LEVEL_POST])

    def test_foot_on_the_horizon(self):
        self.check_not([LEVEL_HORIZON, LEVEL_UP, ("post", 20, 10, 20, 30, 2)])
        self.check_not([("horizon", 1, 1, -70), LEVEL_UP, LEVEL_POST])
        self.check([("horizon", 1, 1, -71), LEVEL_UP, LEVEL_POST])

    def test_head_on_the_horizon_does_no_harm(self):
        self.check([LEVEL_HORIZON, LEVEL_UP, ("post", 20, 50, 20, 10, 2)])

    def test_foot_beyond_the_horizon_does_no_harm(self):
        self.check([LEVEL_HORIZON, LEVEL_UP, ("post", 20, 5, 20, 2, 2)])

    def test_head_below_its_foot_does_no_harm(self):
        self.check([LEVEL_HORIZON, LEVEL_UP, ("post", 20, 50, 20, 60, 2)])

    def test_not_on_a_line_with_up(self):
        self.check_not([LEVEL_HORIZON, LEVEL_UP, ("post", 20, 50, 21, 30, 2)])
        self.check_not([LEVEL_HORIZON, LEVEL_UP, ("post", 20, 50, 40, 50, 2)])
        self.check_not([LEVEL_HORIZON, NEAR_UP, ("post", 50, 70, 51, 40, 2)])
        self.check_not([LEVEL_HORIZON, NEAR_UP, ("post", 20, 50, 20, 30, 2)])
        self.check_not([LEVEL_HORIZON, ("up", 1, 2, 0), ("post", 20, 50, 30, 71, 2)])
        self.check([LEVEL_HORIZON, ("up", 1, 2, 0), ("post", 20, 50, 30, 70, 2)])

    def test_foot_being_up(self):
        for up in (("up", 50, 80, 1), ("up", -50, -80, -1)):
            self.check_not([LEVEL_HORIZON, up, TILTED_POST])

    def test_head_being_up(self):
        for up in (("up", 50, 25, 1), ("up", -50, -25, -1)):
            self.check_not([LEVEL_HORIZON, up, TILTED_POST])

    def test_both_being_up(self):
        self.check_not([LEVEL_HORIZON, NEAR_UP, ("post", 50, 100, 50, 100, 2)])

    def test_up_between_foot_and_head(self):
        self.check([LEVEL_HORIZON, ("up", 50, 60, 1), TILTED_POST])

    def test_one_row_or_one_column_with_up_is_not_up(self):
        self.check([LEVEL_HORIZON, ("up", 50, 90, 1), TILTED_POST])
        self.check([LEVEL_HORIZON, ("up", 60, 80, 1), ("post", 50, 80, 20, 80, 3)])

    def test_up_beyond_all_is_no_point_that_is_seen(self):
        # 50, 80, 0 is beyond all, though a foot at 50, 80 has the same two numbers.
        self.check([LEVEL_HORIZON, ("up", 50, 80, 0), ("post", 50, 80, 45, 72, 3)])

    def test_head_being_the_foot(self):
        self.check_not([LEVEL_HORIZON, LEVEL_UP, ("post", 20, 50, 20, 50, 2)])
        self.check_not([LEVEL_HORIZON, NEAR_UP, ("post", 20, 50, 20, 50, 2)])


if __name__ == "__main__":
    unittest.main()
