"""How a line of calls goes: its beginning, its answers' form, what is kept and what isn't."""

import contextlib
import io
import unittest

from tallpost.beside import answers
from tests.lines import ASKED, EYE, LEAST, LEVEL, LEVEL_HORIZON, LEVEL_POST, LEVEL_UP, MOST, NEAR, NUMBERS, READY
from tests.lines import START, STATE, TILTED, TILTED_POST, TILTED_UP, ask, behind, flat, last

HEIGHT = ("height", 60, 90, 60, 50)
HEAD = ("head", 60, 90, 2, 1)
OTHERS = [LEVEL_HORIZON, LEVEL_UP, LEVEL_POST] + list(ASKED)


class Form(unittest.TestCase):
    def test_the_list_given_back_by_the_letter(self):
        told = answers([
            6,
            0,
            4,
            1, 0, 1, -10,
            2, 0, 1, 0,
            3, 20, 50, 20, 30, 2,
            4,
            5, 60, 90, 60, 60,
            5, 60, 90, 61, 60,
            6,
            7, 60, 90, 1, 3,
            7, 60, 101, 1, 3,
        ])
        self.assertEqual(told, [
            1, -11,
            1, 0,
            1, 0,
            1, 0,
            1, 0,
            1, 0,
            1, 1,
            3, 0, 3, 2,
            1, -33,
            3, 0, 4, 1,
            5, 0, 60, 1, 250, 3,
            1, -22,
        ])

    def test_the_calls_8_to_14_by_the_letter(self):
        told = answers([
            14,
            0,
            14,
            1, 0, 1, -10,
            2, 0, 1, 0,
            3, 20, 50, 20, 30, 2,
            14,
            8, 60, 90, 60, 60, 20, 50, 20, 30,
            9, 30, 9,
            10, 60, 90, 60, 60, 0, 30,
            11, 60, 90, 60, 60, 1,
            12, 60, 90, 60, 60,
            13, 20, 50, 27, 47,
            13, 20, 50, 20, 50,
            14,
        ])
        self.assertEqual(told, [
            1, -11,
            1, 0,
            4, 0, 0, 0, 0,
            1, 0,
            1, 0,
            1, 0,
            4, 1, 1, 1, 1,
            1, 2,
            1, 2,
            5, 0, 0, 1, 45, 2,
            3, 0, 4, 3,
            1, 1,
            5, 0, 340, 3, 10, 1,
            1, -17,
            4, 1, 1, 1, 1,
        ])

    def test_each_call_behind_a_picture(self):
        self.assertEqual(behind(LEVEL, list(ASKED)), list(ASKED.values()))

    def test_only_plain_whole_numbers_in_a_list(self):
        told = answers(flat([READY] + LEVEL + list(ASKED) + [START] + list(ASKED)))
        self.assertIs(type(told), list)
        for number in told:
            self.assertIs(type(number), int)

    def test_one_call(self):
        self.assertEqual(answers([0]), [1, 0])
        self.assertEqual(answers([4]), [1, -11])
        self.assertEqual(answers([14]), [1, -11])


class Beginning(unittest.TestCase):
    def test_ahead_of_the_first_start_every_other_call_is_refused(self):
        self.assertEqual([NUMBERS[call[0]] for call in OTHERS], list(range(1, 15)))
        for call in OTHERS:
            with self.subTest(call=call):
                self.assertEqual(ask([call]), [[-11]])
        self.assertEqual(ask(OTHERS), [[-11]] * len(OTHERS))

    def test_that_stands_ahead_of_every_other_refusal(self):
        for wrong in (LEAST, MOST, -1, 101):
            for call in (
                ("horizon", wrong, wrong, wrong),
                ("horizon", 0, 0, 0),
                ("up", wrong, wrong, wrong),
                ("up", 0, 0, 0),
                ("post", wrong, wrong, wrong, wrong, wrong),
                ("height", wrong, wrong, wrong, wrong),
                ("head", wrong, wrong, wrong, wrong),
                ("taller",) + (wrong,) * 8,
                ("side", wrong, wrong),
                ("like",) + (wrong,) * 6,
                ("rule",) + (wrong,) * 5,
                ("stands",) + (wrong,) * 4,
                ("meet",) + (wrong,) * 4,
                ("meet", 5, 5, 5, 5),
            ):
                with self.subTest(call=call):
                    self.assertEqual(ask([call]), [[-11]])

    def test_what_is_told_ahead_of_start_is_not_kept(self):
        self.assertEqual(ask([LEVEL_HORIZON, LEVEL_UP, LEVEL_POST, START, READY]),
                         [[-11], [-11], [-11], [0], [0]])
        self.assertEqual(ask([LEVEL_HORIZON, START, LEVEL_UP, LEVEL_POST, READY, EYE])[-2:], [[0], [-16]])

    def test_the_numbers_of_a_refused_call_are_no_calls(self):
        self.assertEqual(answers([1, 0, 0, 0, 4]), [1, -11, 1, -11])
        self.assertEqual(answers([3, 0, 0, 0, 0, 0, 5, 0, 0, 0, 0, 7, 0, 0, 0, 0, 2, 0, 0, 0, 6]),
                         [1, -11] * 5)
        self.assertEqual(answers([8] + [0] * 8 + [9, 0, 0, 10] + [0] * 6 + [11] + [0] * 5 + [12] + [0] * 4 + [13]
                                 + [0] * 4 + [14]),
                         [1, -11] * 7)
        self.assertEqual(answers([0, 1, 0, 0, 0, 2, 0, 0, 0, 3, 0, 0, 0, 0, 0, 5, 0, 0, 0, 0, 7, 0, 0, 0, 0, 4]),
                         [1, 0, 1, -22, 1, -22, 1, -22, 1, -16, 1, -22, 1, 0])
        self.assertEqual(answers([0, 8] + [0] * 8 + [9, 0, 0, 10] + [0] * 6 + [11] + [0] * 5 + [12] + [0] * 4 + [13]
                                 + [0] * 4 + [4]),
                         [1, 0, 1, -16, 1, -16, 1, -16, 1, -22, 1, -16, 1, -17, 1, 0])


class Started(unittest.TestCase):
    def test_start_is_never_refused(self):
        self.assertEqual(ask([START, START] + LEVEL + [START])[-1], [0])
        self.assertEqual(ask([READY, START, START])[1:], [[0], [0]])

    def test_start_again_forgets_all(self):
        self.assertEqual(behind(LEVEL + [READY, START], list(ASKED)), [[0]] + [[-16]] * 9 + [[0, 0, 0, 0]])

    def test_start_again_forgets_each(self):
        told = [LEVEL_HORIZON, LEVEL_UP, LEVEL_POST]
        for missing in told:
            with self.subTest(missing=missing):
                kept = [call for call in told if call != missing]
                self.assertEqual(ask(LEVEL + [START] + kept + [READY, missing, READY])[-3:], [[0], [0], [1]])

    def test_another_picture_behind_start(self):
        self.assertEqual(ask(LEVEL + [EYE] + TILTED + [EYE] + NEAR + [EYE])[4::5], [[0, 4, 1], [0, 7, 2], [0, 4, 3]])


class Told(unittest.TestCase):
    """A refused horizon, up or post changes nothing; one told again takes its place."""

    def test_refused_ones_leave_what_was_told(self):
        for wrong in (
            ("horizon", 0, 0, 5),
            ("horizon", 1, 1001, 5),
            ("horizon", 1, 1, 100001),
            ("up", 0, 0, 0),
            ("up", 3, 1001, 0),
            ("up", 3, 4, 2),
            ("post", 1, 2, 3, 101, 5),
            ("post", 1, 2, 3, 4, 1001),
            ("post", 1, 2, 3, 4, 0),
        ):
            with self.subTest(wrong=wrong):
                self.assertEqual(ask(LEVEL + [wrong, READY, HEIGHT, EYE, HEAD])[-5:],
                                 [[-22], [1], [0, 2, 1], [0, 4, 1], [0, 60, 1, 50, 1]])

    def test_refused_ones_tell_nothing_either(self):
        self.assertEqual(last([START, ("horizon", 0, 1001, -10), LEVEL_UP, LEVEL_POST, READY]), [0])
        self.assertEqual(last([START, LEVEL_HORIZON, ("up", 0, 1, 2), LEVEL_POST, READY]), [0])
        self.assertEqual(last([START, LEVEL_HORIZON, LEVEL_UP, ("post", 20, 50, 20, 30, 1001), READY]), [0])

    def test_a_horizon_told_again(self):
        # v = 20: the post's foot makes 30, so the eye is 2 * 30 / 20 high.
        self.assertEqual(ask(LEVEL + [EYE, ("horizon", 0, 1, -20), EYE])[-3:], [[0, 4, 1], [0], [0, 3, 1]])

    def test_up_told_again(self):
        # Up at 20, 110: the post's rise is 20 / 80, up makes 100, the eye 2 * 4 * 40 / 100.
        self.assertEqual(ask(LEVEL + [EYE, ("up", 20, 110, 1), EYE])[-3:], [[0, 4, 1], [0], [0, 16, 5]])

    def test_a_post_told_again(self):
        # Its rise is 5, its foot makes 20 and it is 7 high: the eye is 7 * 20 / 5 high.
        self.assertEqual(ask(LEVEL + [EYE, ("post", 40, 30, 40, 25, 7), EYE])[-3:], [[0, 4, 1], [0], [0, 28, 1]])

    def test_they_may_be_told_in_any_order(self):
        self.assertEqual(last([START, LEVEL_POST, LEVEL_UP, LEVEL_HORIZON, EYE]), [0, 4, 1])
        self.assertEqual(last([START, LEVEL_UP, LEVEL_POST, LEVEL_HORIZON, EYE]), [0, 4, 1])

    def test_one_told_again_may_end_and_bring_back_readiness(self):
        self.assertEqual(ask(LEVEL + [("up", 1, 0, 0), READY, EYE, LEVEL_UP, READY, EYE])[-6:],
                         [[0], [0], [-16], [0], [1], [0, 4, 1]])

    ASKED_AND_REFUSED = [
        ("height", 60, 90, 61, 50), ("head", 60, 10, 1, 1), ("height", 0, 0, 0, 101),
        ("taller", 60, 90, 61, 50, 20, 50, 20, 30), ("taller",) + (101,) * 8,
        ("side", 101, 0),
        ("like", 20, 50, 20, 30, 60, 10), ("like",) + (101,) * 6,
        ("rule", 60, 90, 60, 90, 9), ("rule", 60, 90, 60, 50, 0),
        ("stands", 60, 90, 61, 50), ("stands", 0, 0, 0, 101),
        ("meet", 20, 50, 60, 50), ("meet", 5, 5, 5, 5), ("meet", 5, 5, 5, 101),
    ]

    def test_asking_changes_nothing(self):
        asked = list(ASKED) + self.ASKED_AND_REFUSED
        parts = behind(LEVEL, asked + asked)
        self.assertEqual(parts[:len(asked)], parts[len(asked):])

    def test_behind_each_call_that_asks_the_answers_are_as_without_it(self):
        for line in (LEVEL, TILTED, NEAR, LEVEL[:1], LEVEL[:2], LEVEL[:3], [START, LEVEL_UP, LEVEL_POST]):
            without = behind(line, list(ASKED))
            for call in list(ASKED) + self.ASKED_AND_REFUSED:
                with self.subTest(line=line, call=call):
                    self.assertEqual(behind(line + [call], list(ASKED)), without)

    def test_calls_that_ask_between_those_that_tell(self):
        line = [START] + list(ASKED) + [LEVEL_HORIZON] + list(ASKED) + [LEVEL_UP] + list(ASKED) + [LEVEL_POST]
        self.assertEqual(behind(line, list(ASKED)), list(ASKED.values()))


class Length(unittest.TestCase):
    def test_two_hundred_calls(self):
        calls = LEVEL + [HEIGHT, EYE, HEAD, READY] * 49
        self.assertEqual(len(calls), 200)
        self.assertLessEqual(len(flat(calls)), 2000)
        self.assertEqual(ask(calls), [[0]] * 4 + [[0, 2, 1], [0, 4, 1], [0, 60, 1, 50, 1], [1]] * 49)

    def test_two_hundred_calls_with_all_fifteen_among_them(self):
        part = LEVEL + list(ASKED)
        told = [[0]] * 4 + list(ASKED.values())
        calls = part * 13 + part[:5]
        self.assertEqual({NUMBERS[call[0]] for call in calls}, set(range(15)))
        self.assertEqual(len(calls), 200)
        self.assertLessEqual(len(flat(calls)), 2000)
        self.assertEqual(ask(calls), told * 13 + told[:5])

    def test_two_hundred_of_the_longest(self):
        calls = LEVEL + [("taller", 60, 90, 60, 60, 20, 50, 20, 30)] * 196
        self.assertEqual(ask(calls), [[0]] * 4 + [[2]] * 196)

    def test_two_hundred_refused_calls(self):
        self.assertEqual(ask([READY] * 200), [[-11]] * 200)

    def test_two_hundred_starts(self):
        self.assertEqual(ask([START] * 200), [[0]] * 200)


class NothingKept(unittest.TestCase):
    CALLS = [READY, STATE] + LEVEL + list(ASKED) + [("up", 0, 0, 0)] + TILTED + list(ASKED)

    def test_the_list_handed_in_is_as_it_was(self):
        numbers = flat(self.CALLS)
        before = list(numbers)
        told = answers(numbers)
        self.assertEqual(numbers, before)
        self.assertIsNot(told, numbers)

    def test_the_list_handed_in_is_not_changed_for_a_while_either(self):
        class Watched(list):
            def refuse(self, *parts):
                raise RuntimeError("changed")

            append = extend = insert = pop = remove = clear = sort = reverse = refuse
            __setitem__ = __delitem__ = __iadd__ = __imul__ = refuse

        numbers = flat(self.CALLS)
        self.assertEqual(answers(Watched(numbers)), answers(numbers))

    def test_the_same_twice(self):
        numbers = flat(self.CALLS)
        first = answers(numbers)
        copy = list(first)
        second = answers(numbers)
        self.assertEqual(first, second)
        self.assertIsNot(first, second)
        first.append(99)
        self.assertEqual(answers(numbers), copy)

    def test_every_list_has_a_new_object(self):
        ask(LEVEL + [EYE])
        self.assertEqual(ask([READY, EYE, START, READY]), [[-11], [-11], [0], [0]])

    def test_another_list_between(self):
        first = ask(LEVEL + [EYE])
        ask([START, ("horizon", 5, 5, 5), TILTED_UP, TILTED_POST])
        self.assertEqual(ask(LEVEL + [EYE]), first)

    def test_nothing_is_printed(self):
        out, err = io.StringIO(), io.StringIO()
        with contextlib.redirect_stdout(out), contextlib.redirect_stderr(err):
            answers(flat(self.CALLS))
        self.assertEqual((out.getvalue(), err.getvalue()), ("", ""))


if __name__ == "__main__":
    unittest.main()
