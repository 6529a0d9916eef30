"""The call state: what is told, and whether it's ready."""

import unittest

from tests.lines import LEVEL, LEVEL_HORIZON, LEVEL_POST, LEVEL_UP, NEAR, READY, START, STATE, TILTED, TILTED_POST
from tests.lines import ask, behind, last


class State(unittest.TestCase):
    def test_each_told_and_not_told(self):
        for horizon in (0, 1):
            for up in (0, 1):
                for post in (0, 1):
                    line = [START] + [LEVEL_HORIZON] * horizon + [LEVEL_UP] * up + [LEVEL_POST] * post
                    ready = int(horizon + up + post == 3)
                    with self.subTest(line=line):
                        self.assertEqual(last(line + [STATE]), [ready, horizon, up, post])

    def test_one_behind_another(self):
        self.assertEqual(ask([START, STATE, LEVEL_POST, STATE, LEVEL_HORIZON, STATE, LEVEL_UP, STATE])[1::2],
                         [[0, 0, 0, 0], [0, 0, 0, 1], [0, 1, 0, 1], [1, 1, 1, 1]])

    def test_ready(self):
        for line in (LEVEL, TILTED, NEAR, TILTED + [("up", -50, -190, -1)]):
            self.assertEqual(last(line + [STATE]), [1, 1, 1, 1])

    def test_all_told_and_not_ready(self):
        for told in (
            [LEVEL_HORIZON, ("up", 1, 0, 0), ("post", 20, 50, 40, 50, 2)],
            [LEVEL_HORIZON, ("up", 20, 10, 1), LEVEL_POST],
            [LEVEL_HORIZON, LEVEL_UP, ("post", 20, 10, 20, 30, 2)],
            [LEVEL_HORIZON, LEVEL_UP, ("post", 20, 50, 21, 30, 2)],
            [LEVEL_HORIZON, LEVEL_UP, ("post", 20, 50, 20, 50, 2)],
            [LEVEL_HORIZON, ("up", 50, 80, 1), TILTED_POST],
            [LEVEL_HORIZON, ("up", -50, -25, -1), TILTED_POST],
        ):
            with self.subTest(told=told):
                self.assertEqual(last([START] + told + [STATE]), [0, 1, 1, 1])

    def test_refused_ones_are_not_told(self):
        line = [START, ("horizon", 0, 0, 1), ("up", 0, 0, 0), ("post", 20, 50, 20, 30, 0)]
        self.assertEqual(ask(line + [STATE])[1:], [[-22], [-22], [-22], [0, 0, 0, 0]])
        self.assertEqual(last(LEVEL + line[1:] + [STATE]), [1, 1, 1, 1])

    def test_numbers_0_are_told_all_the_same(self):
        line = [START, ("horizon", 0, 1, 0), ("up", 0, 0, 1), ("post", 0, 0, 0, 0, 1)]
        self.assertEqual(last(line + [STATE]), [0, 1, 1, 1])

    def test_start_again(self):
        self.assertEqual(behind(LEVEL, [STATE, START, STATE, LEVEL_UP, STATE]),
                         [[1, 1, 1, 1], [0], [0, 0, 0, 0], [0], [0, 0, 1, 0]])

    def test_ahead_of_the_first_start(self):
        self.assertEqual(ask([STATE, LEVEL_UP, STATE, START, STATE]), [[-11], [-11], [-11], [0], [0, 0, 0, 0]])

    def test_it_says_of_readiness_what_ready_says(self):
        for line in (LEVEL[:1], LEVEL[:2], LEVEL[:3], LEVEL, LEVEL + [("up", 1, 0, 0)]):
            ready, state = behind(line, [READY, STATE])
            self.assertEqual(state[:1], ready)


if __name__ == "__main__":
    unittest.main()
