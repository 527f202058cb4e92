"""Tests of treadles.loom.answers: how calls and answers stand, and the calls begins, picks and lifts."""

import contextlib
import inspect
import io
import sys
import unittest

from helper import (
    HIGHEST,
    LoomTest,
    begins,
    fewest,
    lifts,
    picks,
    press,
    told_fewest,
    told_lifts,
    told_press,
    told_walk,
    walk,
)
from treadles import loom


class Frozen(list):
    """A list that can't be changed, not for a while either."""

    def refuse(self, *args, **kwargs):
        raise AssertionError("the list that was handed in is changed")

    append = clear = extend = insert = pop = remove = reverse = sort = refuse
    __setitem__ = __delitem__ = __iadd__ = __imul__ = refuse


def every_call():
    """Each call, answered and refused, on one loom."""
    return (
        begins(3) + picks(7, 1, 0) + lifts() + picks(8) + begins(9) + picks()
        + fewest(2) + fewest(4) + press(3, 1, 2, 4) + press(2, 1, 2, 4) + press(0, 1) + press(1, *[1] * 9)
        + walk(1, 2, 6) + walk(1, 2, 4) + walk(7) + walk(1, 8)
        + begins(1) + lifts() + fewest(1) + press(1) + walk(1, 1)
    )


class InterfaceTest(LoomTest):
    def test_numbers_as_they_stand(self):
        self.assertEqual(loom.answers([0, 3]), [1, 0])
        self.assertEqual(loom.answers([0, 0]), [1, -1])
        self.assertEqual(loom.answers([1, 0]), [1, 0])
        self.assertEqual(loom.answers([1, 2, 0, 1]), [1, 2])
        self.assertEqual(loom.answers([1, 1, 2]), [1, -1])
        self.assertEqual(loom.answers([2]), [1, 0])
        self.assertEqual(loom.answers([1, 1, 1, 2]), [1, 1, 4, 1, 2, 1, 1])

    def test_readme_examples(self):
        self.assertEqual(
            loom.answers([0, 2, 1, 4, 1, 3, 0, 1, 2]),
            [1, 0, 1, 4, 7, 2, 2, 1, 2, 2, 3, 1],
        )
        self.assertEqual(
            loom.answers([0, 3, 1, 2, 3, 5, 3, 2, 4, 2, 3, 1, 2, 4, 5, 3, 1, 2, 4]),
            [1, 0, 1, 2, 6, 2, 1, 1, 2, 3, 5, 7, 4, 2, 0, 1, 2, 0, 2, 9, 1, 1, 1, 2, 0, 1, 2, 0, 2],
        )

    def test_lifts_that_look_like_calls(self):
        self.check(
            (begins(2), [0]),
            (picks(2, 2, 0, 1), [4]),
            (picks(1, 2), [6]),
            (lifts(), told_lifts((1, 2), (2, 3))),
        )

    def test_calls_in_any_order_about_one_loom(self):
        self.check(
            (walk(1, 1), [0, 1, 1]),
            (press(2, 1), [0]),
            (fewest(3), [0, 1, 1, 0]),
            (lifts(), [0]),
            (begins(3), [0]),
            (picks(3, 5), [2]),
            (press(2, 1, 2, 4), told_press([0, 1], [0, 2])),
            (walk(1, 2, 4), told_walk(1, 1, (0, 1), (0, 2))),
            (press(1, 1, 2, 4), [-6, 1, 0]),
            (fewest(1), told_fewest(1, 3, 5)),
            (picks(9), [-1]),
            (walk(1, 2), [-6]),
            (picks(0, 3), [4]),
            (fewest(2), told_fewest(1, 3, 5)),
            (walk(3, 0, 5), told_walk(0, 1, (0, 2), (0, 2), (0, 2), (0, 2))),
            (fewest(0), [-1]),
            (lifts(), told_lifts((3, 2), (5, 1))),
            (press(3, 5, 3), told_press([1], [0], [], [1])),
            (begins(1), [0]),
            (walk(2, 1), [-1]),
            (press(1, 2), [-1]),
            (walk(1, 1), [0, 1, 1]),
        )

    def test_refused_calls_are_read_to_their_end(self):
        self.check(
            (press(0, 2, 2, 2), [-1]),
            (walk(2), [-1]),
            (press(0, *[5] * 40), [-1]),
            (walk(*[5] * 40), [-1]),
            (fewest(5), [-1]),
            (picks(5, 5, 5), [-1]),
            (lifts(), [0]),
        )

    def test_sixty_calls(self):
        pairs = [(begins(4), [0])]
        for i in range(29):
            pairs.append((picks(15), [i + 1]))
            pairs.append((lifts(), told_lifts((15, i + 1))))
        pairs.append((begins(5), [-1]))
        self.check(*pairs)

    def test_one_parameter_called_calls(self):
        parameters = inspect.signature(loom.answers).parameters
        self.assertEqual(list(parameters), ["calls"])
        self.assertIs(parameters["calls"].default, inspect.Parameter.empty)
        self.assertEqual(loom.answers.__module__, "treadles.loom")
        self.assertEqual(loom.answers(calls=[0, 1]), [1, 0])

    def test_kinds(self):
        told = loom.answers(every_call())
        self.assertIs(type(told), list)
        for number in told:
            self.assertIs(type(number), int)

    def test_what_is_handed_in_is_not_changed(self):
        calls = every_call()
        before = list(calls)
        loom.answers(calls)
        self.assertEqual(calls, before)
        self.assertEqual(loom.answers(Frozen(calls)), loom.answers(calls))

    def test_twice_is_the_same(self):
        calls = begins(2) + picks(3, 1) + lifts() + picks(4) + picks(1)
        first = loom.answers(calls)
        self.assertEqual(first, [1, 0, 1, 2, 7, 2, 2, 1, 1, 2, 3, 1, 1, -1, 1, 3])
        self.assertEqual(loom.answers(calls), first)
        self.assertEqual(loom.answers(every_call()), loom.answers(every_call()))

    def test_nothing_is_kept(self):
        calls = picks(1) + picks(2) + lifts()
        expected = [1, 1, 1, -1, 4, 1, 2, 1, 1]
        told = loom.answers(calls)
        self.assertEqual(told, expected)
        told.clear()
        loom.answers(begins(4) + picks(*[15] * 40) + fewest(2) + press(1, 15) + walk(15, 0))
        self.assertEqual(loom.answers(calls), expected)

    def test_prints_and_imports_nothing(self):
        shown = io.StringIO()
        modules = set(sys.modules)
        with contextlib.redirect_stdout(shown), contextlib.redirect_stderr(shown):
            loom.answers(every_call())
        self.assertEqual(shown.getvalue(), "")
        self.assertEqual(set(sys.modules), modules)

    def test_a_number_that_is_no_call(self):
        with self.assertRaises(loom.UnknownCall):
            loom.answers([6])


class NotBegunTest(LoomTest):
    def test_no_picks(self):
        self.check((lifts(), [0]), (picks(), [0]))

    def test_one_shaft(self):
        self.check((picks(0, 1), [2]), (picks(2), [-1]), (picks(3), [-1]), (lifts(), told_lifts((1, 1))))

    def test_begins_behind_picks_on_a_loom_not_begun(self):
        self.check((picks(1), [1]), (begins(1), [0]), (lifts(), [0]), (picks(1, 1), [2]))


class BeginsTest(LoomTest):
    def test_each_number_of_shafts(self):
        for shafts in (1, 2, 3, 4):
            with self.subTest(shafts=shafts):
                beyond = 1 << shafts
                self.check(
                    (begins(shafts), [0]),
                    (lifts(), [0]),
                    (picks(beyond - 1), [1]),
                    (picks(beyond), [-1]),
                    (picks(beyond // 2), [2]),
                )

    def test_not_one_to_four(self):
        for shafts in (0, 5, 6, 8, 40, HIGHEST - 1, HIGHEST):
            with self.subTest(shafts=shafts):
                self.check((begins(shafts), [-1]))

    def test_refused_leaves_a_loom_not_begun(self):
        for shafts in (0, 5, HIGHEST):
            with self.subTest(shafts=shafts):
                self.check((begins(shafts), [-1]), (lifts(), [0]), (picks(2), [-1]), (picks(1), [1]))

    def test_refused_leaves_shafts_and_picks(self):
        for shafts in (0, 5, HIGHEST):
            with self.subTest(shafts=shafts):
                self.check(
                    (begins(2), [0]),
                    (picks(3, 0, 3), [3]),
                    (begins(shafts), [-1]),
                    (lifts(), told_lifts((3, 2))),
                    (picks(4), [-1]),
                    (picks(2), [4]),
                    (lifts(), told_lifts((2, 1), (3, 2))),
                )

    def test_again_behind_picks(self):
        self.check(
            (begins(3), [0]),
            (picks(7, 4), [2]),
            (begins(2), [0]),
            (lifts(), [0]),
            (picks(4), [-1]),
            (picks(3), [1]),
            (begins(4), [0]),
            (picks(8, 15), [2]),
            (lifts(), told_lifts((8, 1), (15, 1))),
        )

    def test_again_behind_forty_picks(self):
        self.check(
            (begins(2), [0]),
            (picks(*[3] * 40), [40]),
            (begins(2), [0]),
            (picks(*[1] * 40), [40]),
            (lifts(), told_lifts((1, 40))),
        )

    def test_again_with_as_many_shafts(self):
        self.check((begins(2), [0]), (picks(2), [1]), (begins(2), [0]), (lifts(), [0]), (picks(3), [1]))


class PicksTest(LoomTest):
    def test_several_calls(self):
        self.check((begins(3), [0]), (picks(5, 2), [2]), (picks(7), [3]), (picks(0, 0, 2), [6]))

    def test_empty_list(self):
        self.check(
            (begins(2), [0]),
            (picks(), [0]),
            (picks(1, 2), [2]),
            (picks(), [2]),
            (lifts(), told_lifts((1, 1), (2, 1))),
        )

    def test_a_shaft_that_there_is_not(self):
        for shafts in (1, 2, 3, 4):
            beyond = 1 << shafts
            for lift in (beyond, beyond + 1, 2 * beyond - 1, 2 * beyond, 16, 31, HIGHEST):
                with self.subTest(shafts=shafts, lift=lift):
                    self.check((begins(shafts), [0]), (picks(lift), [-1]), (lifts(), [0]))

    def test_a_shaft_that_there_is_not_at_any_place(self):
        for refused in ((4, 1, 1), (1, 4, 1), (1, 1, 4)):
            with self.subTest(refused=refused):
                self.check(
                    (begins(2), [0]),
                    (picks(2), [1]),
                    (picks(*refused), [-1]),
                    (lifts(), told_lifts((2, 1))),
                    (picks(3), [2]),
                )

    def test_forty_and_forty_one_in_one_call(self):
        self.check((begins(2), [0]), (picks(*[2] * 40), [40]), (lifts(), told_lifts((2, 40))), (picks(2), [-5]))
        self.check((begins(2), [0]), (picks(*[2] * 41), [-5]), (lifts(), [0]), (picks(2), [1]))
        self.check((begins(2), [0]), (picks(1), [1]), (picks(*[2] * 40), [-5]), (lifts(), told_lifts((1, 1))))

    def test_forty_and_forty_one_over_several(self):
        self.check(
            (begins(2), [0]),
            (picks(*[1] * 20), [20]),
            (picks(*[2] * 19), [39]),
            (picks(3, 3), [-5]),
            (lifts(), told_lifts((1, 20), (2, 19))),
            (picks(3), [40]),
            (picks(0), [-5]),
            (picks(), [40]),
            (lifts(), told_lifts((1, 20), (2, 19), (3, 1))),
        )

    def test_empty_lifts_count_as_picks(self):
        self.check((picks(*[0] * 40), [40]), (picks(0), [-5]), (lifts(), [0]))

    def test_of_two_refusals_the_shaft_is_told(self):
        self.check(
            (begins(2), [0]),
            (picks(*[1] * 40), [40]),
            (picks(4), [-1]),
            (picks(1, 4), [-1]),
            (picks(1), [-5]),
            (lifts(), told_lifts((1, 40))),
        )
        self.check((begins(4), [0]), (picks(1), [1]), (picks(*[1] * 39, 16), [-1]), (lifts(), told_lifts((1, 1))))
        self.check((begins(4), [0]), (picks(*[1] * 40, 16), [-1]), (lifts(), [0]))


class LiftsTest(LoomTest):
    def test_no_picks(self):
        self.check((begins(4), [0]), (lifts(), [0]))

    def test_rising_with_how_many_picks(self):
        self.check(
            (begins(4), [0]),
            (picks(12, 3, 12, 0, 9), [5]),
            (picks(3, 12, 1), [8]),
            (lifts(), told_lifts((1, 1), (3, 2), (9, 1), (12, 3))),
        )

    def test_two_lifts_rising(self):
        for lift in range(1, 16):
            for lower in range(1, lift):
                with self.subTest(lift=lift, lower=lower):
                    self.check(
                        (begins(4), [0]),
                        (picks(lift, lower), [2]),
                        (lifts(), told_lifts((lower, 1), (lift, 1))),
                    )

    def test_empty_lift_is_not_counted(self):
        self.check((begins(2), [0]), (picks(0), [1]), (lifts(), [0]), (picks(2, 0), [3]), (lifts(), told_lifts((2, 1))))

    def test_all_lifts_of_four_shafts(self):
        falling = list(range(15, -1, -1))
        self.check(
            (begins(4), [0]),
            (picks(*falling, *falling), [32]),
            (lifts(), told_lifts(*[(lift, 2) for lift in range(1, 16)])),
        )

    def test_asked_again(self):
        self.check(
            (begins(2), [0]),
            (picks(3, 1), [2]),
            (lifts(), told_lifts((1, 1), (3, 1))),
            (lifts(), told_lifts((1, 1), (3, 1))),
            (picks(1), [3]),
            (lifts(), told_lifts((1, 2), (3, 1))),
        )


if __name__ == "__main__":
    unittest.main()
