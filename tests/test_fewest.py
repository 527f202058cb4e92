"""Tests of the call fewest."""

import itertools
import unittest

from helper import HIGHEST, LoomTest, begins, fewest, lifts, picks, told_fewest, told_lifts
from treadles import loom


class FewestRefusalTest(LoomTest):
    def test_feet_at_the_edges(self):
        self.check_on(
            1,
            [1],
            (fewest(0), [-1]),
            (fewest(1), told_fewest(1, 1)),
            (fewest(3), told_fewest(1, 1)),
            (fewest(4), [-1]),
            (fewest(HIGHEST), [-1]),
        )

    def test_refused_of_no_picks_too(self):
        self.check((fewest(0), [-1]), (fewest(4), [-1]), (begins(4), [0]), (fewest(0), [-1]), (fewest(4), [-1]))

    def test_refused_leaves_all_as_it_was(self):
        for feet in (0, 4, HIGHEST):
            with self.subTest(feet=feet):
                self.check_on(
                    2,
                    [3, 1, 3],
                    (fewest(feet), [-1]),
                    (lifts(), told_lifts((1, 1), (3, 2))),
                    (fewest(1), told_fewest(1, 1, 3)),
                    (picks(4), [-1]),
                    (picks(2), [4]),
                )


class FewestTest(LoomTest):
    def test_numbers_as_they_stand(self):
        # 1 and 3 with two feet: {1, 2} and {1, 3} do.
        self.assertEqual(loom.answers([0, 2, 1, 2, 3, 1, 3, 2]), [1, 0, 1, 2, 6, 2, 1, 2, 2, 1, 2])

    def test_no_picks(self):
        for feet in (1, 2, 3):
            with self.subTest(feet=feet):
                self.check((fewest(feet), [0, 1, 1, 0]), (begins(4), [0]), (fewest(feet), [0, 1, 1, 0]))

    def test_empty_lift_alone(self):
        for feet in (1, 2, 3):
            with self.subTest(feet=feet):
                self.check_on(4, [0, 0], (fewest(feet), [0, 1, 1, 0]))

    def test_empty_lift_beside_others(self):
        self.check_on(2, [0, 3, 0, 1], (fewest(1), told_fewest(1, 1, 3)), (fewest(2), told_fewest(2, 1, 2)))

    def test_one_foot_needs_a_treadle_for_each_lift(self):
        self.check_on(3, [7, 2, 5, 2], (fewest(1), told_fewest(1, 2, 5, 7)))

    def test_one_lift_is_one_treadle(self):
        for lift in range(1, 16):
            for feet in (1, 2, 3):
                with self.subTest(lift=lift, feet=feet):
                    self.check_on(4, [lift], (fewest(feet), told_fewest(1, lift)))

    def test_two_lifts_with_one_foot(self):
        for lift in range(1, 16):
            for lower in range(1, lift):
                with self.subTest(lift=lift, lower=lower):
                    self.check_on(4, [lift, lower], (fewest(1), told_fewest(1, lower, lift)))

    def test_two_feet(self):
        self.check_on(2, [1, 2, 3], (fewest(1), told_fewest(1, 1, 2, 3)), (fewest(2), told_fewest(1, 1, 2)))

    def test_order_of_picks_and_repeats_do_not_matter(self):
        self.check_on(2, [3, 3, 2, 3, 1, 2], (fewest(1), told_fewest(1, 1, 2, 3)), (fewest(2), told_fewest(1, 1, 2)))

    def test_shafts_that_no_lift_has_do_not_matter(self):
        for shafts in (2, 3, 4):
            with self.subTest(shafts=shafts):
                self.check_on(shafts, [3, 1], (fewest(2), told_fewest(2, 1, 2)))

    def test_several_sets_do(self):
        # 7 is made by 3 with any of 4, 5, 6, and by 7.
        self.check_on(3, [3, 7], (fewest(1), told_fewest(1, 3, 7)), (fewest(2), told_fewest(4, 3, 4)))

    def test_earliest_is_told_by_the_first_place_that_differs(self):
        # 1, 2 and 4 are needed as they are; 7 takes one of 3, 5, 6, 7 with two feet: {1, 2, 3, 4} is the earliest.
        self.check_on(
            3,
            [1, 2, 4, 7],
            (fewest(1), told_fewest(1, 1, 2, 4, 7)),
            (fewest(2), told_fewest(4, 1, 2, 3, 4)),
            (fewest(3), told_fewest(1, 1, 2, 4)),
        )

    def test_treadles_that_are_no_lift(self):
        # {1, 2, 4} and {3, 5, 6} do; any mixture takes four.
        for feet in (2, 3):
            with self.subTest(feet=feet):
                self.check_on(3, [6, 5, 3], (fewest(feet), told_fewest(2, 1, 2, 4)))
        self.check_on(3, [6, 5, 3], (fewest(1), told_fewest(1, 3, 5, 6)))

    def test_all_lifts_of_four_shafts(self):
        # The lifts of one shaft are needed as they are. Two feet need {3, 12}, {5, 10} or {6, 9} besides.
        # Three feet lack only 15, which each of the eleven other sets helps to make.
        self.check_on(
            4,
            list(range(16)),
            (fewest(1), told_fewest(1, *range(1, 16))),
            (fewest(2), told_fewest(3, 1, 2, 3, 4, 8, 12)),
            (fewest(3), told_fewest(11, 1, 2, 3, 4, 8)),
        )

    def test_asked_between_other_calls(self):
        self.check(
            (fewest(2), [0, 1, 1, 0]),
            (picks(1), [1]),
            (fewest(2), told_fewest(1, 1)),
            (fewest(2), told_fewest(1, 1)),
            (begins(2), [0]),
            (fewest(2), [0, 1, 1, 0]),
            (picks(3), [1]),
            (fewest(2), told_fewest(1, 3)),
            (picks(1), [2]),
            (fewest(2), told_fewest(2, 1, 2)),
            (fewest(1), told_fewest(1, 1, 3)),
        )

    def test_sixty_calls(self):
        hard = [2, 7, 12, 13, 14, 15] * 6 + [0] * 4
        pairs = [(fewest(1), told_fewest(1, 2, 7, 12, 13, 14, 15))] * 58
        self.check_on(4, hard, *pairs)

    def test_agrees_with_trying_every_set(self):
        for chosen in range(128):
            needed = [lift for lift in range(1, 8) if chosen >> (lift - 1) & 1]
            for feet in (1, 2, 3):
                with self.subTest(needed=needed, feet=feet):
                    self.check_on(3, needed, (fewest(feet), tried_sets(needed, 3, feet)))


def tried_sets(needed, shafts, feet):
    """What fewest must answer, found by trying all sets of treadles, the small ones first."""
    for size in range(len(needed) + 1):
        doing = []
        for ties in itertools.combinations(range(1, 1 << shafts), size):
            if set(needed) <= tried_lifts(ties, feet):
                doing.append(ties)
        if doing:
            return told_fewest(len(doing), *min(doing))
    raise AssertionError("a treadle for each lift must do")


def tried_lifts(ties, feet):
    """All lifts that up to so many of these treadles make."""
    made = set()
    for count in range(feet + 1):
        for pressed in itertools.combinations(ties, count):
            lift = 0
            for tie in pressed:
                lift |= tie
            made.add(lift)
    return made


if __name__ == "__main__":
    unittest.main()
