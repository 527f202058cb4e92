"""Tests of the call press."""

import unittest

from helper import HIGHEST, LoomTest, begins, lifts, picks, press, told_lifts, told_press
from treadles import loom


class PressRefusalTest(LoomTest):
    def test_feet_at_the_edges(self):
        self.check_on(
            1,
            [1],
            (press(0, 1), [-1]),
            (press(1, 1), told_press([0])),
            (press(3, 1), told_press([0])),
            (press(4, 1), [-1]),
            (press(HIGHEST, 1), [-1]),
        )

    def test_eight_treadles_and_nine(self):
        self.check_on(
            2,
            [2],
            (press(1, *[1] * 7, 2), told_press([7])),
            (press(1, *[1] * 7, 2, 1), [-1]),
            (press(1, *[2] * 9), [-1]),
            (press(1, *[2] * 40), [-1]),
        )

    def test_a_shaft_that_there_is_not(self):
        for shafts in (1, 2, 3, 4):
            beyond = 1 << shafts
            self.check_on(shafts, [1], (press(1, 1, beyond - 1), told_press([0])))
            for tie in (beyond, beyond + 1, 2 * beyond, HIGHEST):
                with self.subTest(shafts=shafts, tie=tie):
                    self.check_on(
                        shafts,
                        [1],
                        (press(1, tie), [-1]),
                        (press(1, tie, 1, 1), [-1]),
                        (press(1, 1, tie, 1), [-1]),
                        (press(1, 1, 1, tie), [-1]),
                        (press(1, *[1] * 7, tie), [-1]),
                    )

    def test_refused_of_no_picks_too(self):
        self.check((press(0), [-1]), (press(4, 1), [-1]), (press(1, 2), [-1]), (press(1, *[1] * 9), [-1]))

    def test_a_lift_that_is_not_made(self):
        self.check_on(
            2,
            [1, 0, 2, 3, 2],
            (press(2), [-6, 1, 0]),
            (press(2, 3), [-6, 1, 0]),
            (press(2, 1), [-6, 1, 2]),
            (press(2, 1, 3), [-6, 1, 2]),
            (press(1, 1, 2), [-6, 1, 3]),
            (press(2, 1, 2), told_press([0], [], [1], [0, 1], [1])),
        )

    def test_the_last_of_forty_picks_is_not_made(self):
        self.check_on(2, [1] * 39, (picks(2), [40]), (press(3, 1), [-6, 1, 39]))

    def test_more_feet_than_there_are(self):
        self.check_on(
            4,
            [8, 7, 15],
            (press(1, 1, 2, 4, 8), [-6, 1, 1]),
            (press(2, 1, 2, 4, 8), [-6, 1, 1]),
            (press(3, 1, 2, 4, 8), [-6, 1, 2]),
            (press(3, 1, 2, 4, 8, 12), told_press([3], [0, 1, 2], [0, 1, 4])),
        )

    def test_of_two_refusals_the_first_is_told(self):
        self.check_on(
            2,
            [3, 2],
            (press(0, 1), [-1]),
            (press(4, 1), [-1]),
            (press(2, *[1] * 9), [-1]),
            (press(2, 1, 4), [-1]),
            (press(2, 4), [-1]),
            (press(2, 1), [-6, 1, 0]),
        )

    def test_refused_leaves_all_as_it_was(self):
        for refused, answer in (
            (press(0, 1, 2), [-1]),
            (press(4, 1, 2), [-1]),
            (press(2, *[1] * 9), [-1]),
            (press(2, 1, 4), [-1]),
            (press(2, 1), [-6, 1, 1]),
        ):
            with self.subTest(refused=refused):
                self.check_on(
                    2,
                    [1, 3],
                    (refused, answer),
                    (lifts(), told_lifts((1, 1), (3, 1))),
                    (press(2, 1, 2), told_press([0], [0, 1])),
                    (picks(4), [-1]),
                    (picks(2), [3]),
                )


class PressTest(LoomTest):
    def test_numbers_as_they_stand(self):
        self.assertEqual(
            loom.answers([0, 2, 1, 4, 1, 3, 0, 2, 4, 2, 2, 1, 2]),
            [1, 0, 1, 4, 9, 4, 1, 0, 2, 0, 1, 0, 1, 1],
        )
        self.assertEqual(loom.answers([1, 2, 0, 1, 4, 1, 1, 0]), [1, 2, 3, -6, 1, 1])
        self.assertEqual(loom.answers([4, 4, 2, 1, 1]), [1, -1])

    def test_no_picks(self):
        self.check((press(1), [0]), (press(3, *[1] * 8), [0]), (begins(4), [0]), (press(2, 15), [0]))

    def test_empty_lift_alone(self):
        self.check_on(
            2,
            [0, 0],
            (press(1), told_press([], [])),
            (press(2, 1, 2), told_press([], [])),
            (press(3, 0, 0), told_press([], [])),
        )

    def test_no_treadles(self):
        self.check_on(2, [0, 1], (press(3), [-6, 1, 1]))

    def test_a_treadle_that_is_tied_to_nothing(self):
        self.check_on(2, [0, 1, 3], (press(3, 0, 1, 0, 2), told_press([], [1], [1, 3])))

    def test_two_treadles_tied_to_the_same(self):
        self.check_on(2, [1, 3, 2], (press(2, 2, 1, 1, 2), told_press([1], [0, 1], [0])))

    def test_lifts_just_the_lift(self):
        self.check_on(3, [5], (press(3, 7, 3, 6), [-6, 1, 0]), (press(3, 7, 4, 3, 1), told_press([1, 3])))

    def test_overlapping_treadles(self):
        self.check_on(3, [7], (press(2, 3, 6), told_press([0, 1])), (press(3, 3, 5, 1), told_press([0, 1])))

    def test_as_few_treadles_as_can_be(self):
        self.check_on(
            3,
            [7],
            (press(3, 1, 2, 4, 6), told_press([0, 3])),
            (press(3, 1, 2, 4, 6, 7), told_press([4])),
            (press(1, 1, 2, 4, 6, 7), told_press([4])),
            (press(3, 1, 2, 4), told_press([0, 1, 2])),
        )

    def test_of_as_few_the_lower_at_the_first_place(self):
        # Of 0 with 3 and 1 with 2, the first place tells; of 0, 1, 4 and 0, 2, 3 the second.
        self.check_on(3, [7], (press(2, 2, 3, 4, 5), told_press([0, 3])))
        self.check_on(4, [15], (press(3, 1, 2, 6, 8, 12), told_press([0, 1, 4])))
        self.check_on(3, [7], (press(2, 1, 1, 3, 4, 6), told_press([0, 4])))

    def test_treadles_in_any_order_are_pressed_rising(self):
        self.check_on(3, [7, 5, 1], (press(3, 4, 2, 1), told_press([0, 1, 2], [0, 2], [2])))

    def test_all_picks_together(self):
        self.check_on(
            4,
            [7] * 20,
            (picks(*[8] * 20), [40]),
            (press(3, 1, 2, 4, 8), [80] + [3, 0, 1, 2] * 20 + [1, 3] * 20),
        )

    def test_asked_between_other_calls(self):
        self.check(
            (press(1, 1), [0]),
            (picks(1), [1]),
            (press(1, 1), told_press([0])),
            (press(1, 0), [-6, 1, 0]),
            (press(1, 2), [-1]),
            (picks(0), [2]),
            (press(1, 0, 1), told_press([1], [])),
            (begins(2), [0]),
            (press(1, 2), [0]),
            (picks(3), [1]),
            (press(2, 1), [-6, 1, 0]),
            (press(2, 1, 2), told_press([0, 1])),
        )


if __name__ == "__main__":
    unittest.main()
