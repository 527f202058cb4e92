"""Tests of the call walk."""

import itertools
import unittest

from helper import HIGHEST, LoomTest, begins, lifts, picks, press, told_lifts, told_press, told_walk, walk
from treadles import loom


class WalkRefusalTest(LoomTest):
    def test_fewer_than_two_treadles(self):
        self.check_on(1, [1], (walk(), [-1]), (walk(1), [-1]), (walk(1, 1), told_walk(0, 1, (0, 1))))

    def test_eight_treadles_and_nine(self):
        self.check_on(
            2,
            [3],
            (walk(1, *[0] * 6, 2), told_walk(0, 1, (0, 7))),
            (walk(1, *[0] * 6, 2, 0), [-1]),
            (walk(*[3] * 9), [-1]),
            (walk(*[3] * 40), [-1]),
        )

    def test_a_shaft_that_there_is_not(self):
        for shafts in (1, 2, 3, 4):
            beyond = 1 << shafts
            self.check_on(shafts, [1], (walk(1, beyond - 1), told_walk(0, 1, (0, 1))))
            for tie in (beyond, beyond + 1, 2 * beyond, HIGHEST):
                with self.subTest(shafts=shafts, tie=tie):
                    self.check_on(
                        shafts,
                        [1],
                        (walk(tie, 1, 1), [-1]),
                        (walk(1, tie, 1), [-1]),
                        (walk(1, 1, tie), [-1]),
                        (walk(*[1] * 7, tie), [-1]),
                    )

    def test_refused_of_no_picks_too(self):
        self.check((walk(), [-1]), (walk(1), [-1]), (walk(1, 2), [-1]), (walk(*[1] * 9), [-1]))

    def test_a_lift_that_is_not_made(self):
        self.check_on(
            2,
            [1, 0, 2],
            (walk(0, 0), [-6]),
            (walk(2, 3), [-6]),
            (walk(1, 3), [-6]),
            (walk(1, 2), told_walk(0, 1, (0, 1), (0, 1), (0, 1))),
        )

    def test_a_lift_that_takes_three_feet(self):
        self.check_on(
            3,
            [1, 7],
            (press(3, 1, 2, 4), told_press([0], [0, 1, 2])),
            (walk(1, 2, 4), [-6]),
            (walk(1, 2, 6), told_walk(0, 1, (0, 2), (0, 2))),
        )

    def test_of_two_refusals_the_first_is_told(self):
        self.check_on(
            2,
            [3],
            (walk(), [-1]),
            (walk(1), [-1]),
            (walk(4), [-1]),
            (walk(1, 4), [-1]),
            (walk(*[1] * 9), [-1]),
            (walk(1, 1), [-6]),
        )

    def test_refused_leaves_all_as_it_was(self):
        for refused, answer in (
            (walk(), [-1]),
            (walk(3), [-1]),
            (walk(1, 4), [-1]),
            (walk(*[1] * 9), [-1]),
            (walk(1, 1), [-6]),
        ):
            with self.subTest(refused=refused):
                self.check_on(
                    2,
                    [1, 3],
                    (refused, answer),
                    (lifts(), told_lifts((1, 1), (3, 1))),
                    (walk(1, 2), told_walk(0, 1, (0, 1), (0, 1))),
                    (picks(4), [-1]),
                    (picks(2), [3]),
                )


class WalkTest(LoomTest):
    def test_numbers_as_they_stand(self):
        self.assertEqual(
            loom.answers([0, 4, 1, 2, 3, 12, 5, 4, 1, 2, 4, 8]),
            [1, 0, 1, 2, 9, 4, 1, 1, 2, 0, 1, 2, 2, 3],
        )
        self.assertEqual(loom.answers([1, 1, 1, 5, 2, 0, 0]), [1, 1, 1, -6])
        self.assertEqual(loom.answers([5, 1, 1]), [1, -1])

    def test_no_picks(self):
        self.check(
            (walk(0, 1), [0, 1, 1]),
            (walk(*[1] * 8), [0, 1, 1]),
            (begins(4), [0]),
            (walk(15, 15, 15), [0, 1, 1]),
        )

    def test_empty_lift_alone(self):
        for treadles, ways in ((2, 1), (3, 3), (4, 6), (8, 28)):
            with self.subTest(treadles=treadles):
                ties = [1] * treadles
                self.check_on(1, [0], (walk(*ties), told_walk(0, ways, (0, 1))))
                self.check_on(1, [0, 0, 0], (walk(*ties), told_walk(0, ways, (0, 1), (0, 1), (0, 1))))
                self.check_on(1, [0] * 40, (walk(*ties), told_walk(0, ways, *[(0, 1)] * 40)))

    def test_one_treadle_is_pressed(self):
        # The other foot rests on any other treadle; the foot on the lower number is the left one.
        ties = (1, 2, 4, 8)
        self.check_on(4, [1], (walk(*ties), told_walk(0, 3, (0, 1))))
        self.check_on(4, [2], (walk(*ties), told_walk(0, 3, (0, 1))))
        self.check_on(4, [4], (walk(*ties), told_walk(0, 3, (0, 2))))
        self.check_on(4, [8], (walk(*ties), told_walk(0, 3, (0, 3))))

    def test_two_treadles_are_pressed(self):
        ties = (8, 4, 2, 1)
        for lift, place in ((12, (0, 1)), (10, (0, 2)), (9, (0, 3)), (6, (1, 2)), (5, (1, 3)), (3, (2, 3))):
            with self.subTest(lift=lift):
                self.check_on(4, [lift], (walk(*ties), told_walk(0, 1, place)))

    def test_how_far_each_foot_goes(self):
        ties = (1, 2, 4, 8)
        self.check_on(4, [3, 12], (walk(*ties), told_walk(4, 1, (0, 1), (2, 3))))
        self.check_on(4, [12, 3], (walk(*ties), told_walk(4, 1, (2, 3), (0, 1))))
        self.check_on(4, [3, 9], (walk(*ties), told_walk(2, 1, (0, 1), (0, 3))))
        self.check_on(4, [9, 6], (walk(*ties), told_walk(2, 1, (0, 3), (1, 2))))
        self.check_on(4, [3, 12, 3], (walk(*ties), told_walk(8, 1, (0, 1), (2, 3), (0, 1))))
        self.check_on(4, [3, 3, 3], (walk(*ties), told_walk(0, 1, (0, 1), (0, 1), (0, 1))))

    def test_the_feet_begin_where_the_first_pick_has_them(self):
        self.check_on(4, [12], (walk(0, 0, 0, 0, 0, 0, 4, 8), told_walk(0, 1, (6, 7))))

    def test_a_foot_rests_where_it_is_needed_later(self):
        # The right foot waits on 3 from the beginning; were it first on 1, it would have to go by two.
        self.check_on(4, [1, 2, 8], (walk(1, 2, 4, 8), told_walk(1, 1, (0, 3), (1, 3), (1, 3))))
        self.check_on(4, [1, 8], (walk(1, 2, 4, 8), told_walk(0, 1, (0, 3), (0, 3))))

    def test_how_many_ways_and_the_earliest(self):
        # Between (0, 1) and (2, 3) all six places lie on a shortest way.
        ties = (1, 2, 4, 8)
        self.check_on(4, [3, 0, 12], (walk(*ties), told_walk(4, 6, (0, 1), (0, 1), (2, 3))))
        self.check_on(4, [12, 0, 3], (walk(*ties), told_walk(4, 6, (2, 3), (0, 1), (0, 1))))
        # From (0, 3) to (1, 2): the left foot goes now or later, and so does the right one.
        self.check_on(4, [9, 0, 6], (walk(*ties), told_walk(2, 4, (0, 3), (0, 2), (1, 2))))
        self.check_on(4, [6, 0, 9], (walk(*ties), told_walk(2, 4, (1, 2), (0, 2), (0, 3))))
        # The foot that rests at the first pick goes nowhere.
        self.check_on(4, [2, 0], (walk(*ties), told_walk(0, 3, (0, 1), (0, 1))))
        self.check_on(4, [0, 4], (walk(*ties), told_walk(0, 3, (0, 2), (0, 2))))

    def test_several_ways_to_begin(self):
        # Of treadle 1 and then both 0 and 3: from (0, 1) two to the right, from (1, 3) one to the left.
        self.check_on(4, [2, 9], (walk(1, 2, 4, 8), told_walk(1, 1, (1, 3), (0, 3))))
        # With three treadles either is one off, and the earlier is told.
        self.check_on(4, [2, 5], (walk(1, 2, 4), told_walk(1, 2, (0, 1), (0, 2))))

    def test_several_ways_to_end(self):
        # From both 0 and 2 to treadle 1: the left foot steps to it or the right one does.
        self.check_on(3, [5, 2], (walk(1, 2, 4), told_walk(1, 2, (0, 2), (0, 1))))

    def test_what_press_tells_is_pressed(self):
        # Treadle 2 alone makes the lift: 0 and 1 together don't count.
        self.check_on(2, [3], (walk(1, 2, 3), told_walk(0, 2, (0, 2))))
        # Treadle 0 makes it: 2, which is tied to the same, doesn't count.
        self.check_on(3, [6, 1], (walk(1, 2, 1, 4), told_walk(1, 1, (1, 3), (0, 3))))
        # 0 with 3 is the first way, though 1 with 2 would do.
        self.check_on(3, [7], (walk(2, 3, 4, 5), told_walk(0, 1, (0, 3))))

    def test_two_treadles_tied_to_the_same(self):
        self.check_on(1, [1], (walk(1, 1), told_walk(0, 1, (0, 1))), (walk(1, 1, 1), told_walk(0, 2, (0, 1))))

    def test_a_treadle_that_is_tied_to_nothing(self):
        self.check_on(1, [1], (walk(0, 1), told_walk(0, 1, (0, 1))), (walk(0, 0, 1), told_walk(0, 2, (0, 2))))
        self.check_on(1, [0], (walk(0, 0), told_walk(0, 1, (0, 1))))

    def test_many_ways(self):
        # The feet go by 2 each (or 6 each) while 38 picks with the empty lift lie between, the left one ever behind
        # the right one. These are the plane partitions in a box of 2 by 38 by 2 (or by 6).
        between = [0] * 38
        self.check_on(
            4,
            [3, *between, 12],
            (walk(1, 2, 4, 8), told_walk(4, 780 * 820 // 3, *[(0, 1)] * 39, (2, 3))),
            (walk(1, 2, 0, 0, 0, 0, 4, 8), told_walk(12, 7059052 * 8145060 // 7, *[(0, 1)] * 39, (6, 7))),
        )

    def test_sixty_calls(self):
        ties = (1, 2, 0, 0, 0, 0, 4, 8)
        to_and_fro = told_walk(39 * 12, 1, *[(0, 1), (6, 7)] * 20)
        self.check_on(4, [3, 12] * 20, *[(walk(*ties), to_and_fro)] * 58)
        self.check_on(4, [0] * 40, *[(walk(*ties), told_walk(0, 28, *[(0, 1)] * 40))] * 58)

    def test_asked_between_other_calls(self):
        self.check(
            (walk(1, 1), [0, 1, 1]),
            (picks(1), [1]),
            (walk(1, 0), told_walk(0, 1, (0, 1))),
            (walk(0, 0), [-6]),
            (walk(2, 1), [-1]),
            (picks(0), [2]),
            (walk(1, 0), told_walk(0, 1, (0, 1), (0, 1))),
            (begins(2), [0]),
            (walk(2, 1), [0, 1, 1]),
            (picks(3), [1]),
            (walk(1, 1), [-6]),
            (walk(2, 1), told_walk(0, 1, (0, 1))),
        )

    def test_agrees_with_trying_every_way(self):
        ties = (1, 0, 4, 2)
        of_lift = {0: (), 1: (0,), 2: (3,), 3: (0, 3), 4: (2,), 5: (0, 2), 6: (2, 3)}
        for picked in itertools.product(of_lift, repeat=3):
            with self.subTest(picked=picked):
                pressed = [of_lift[lift] for lift in picked]
                self.check_on(3, picked, (walk(*ties), tried_walk(pressed, len(ties))))


def tried_walk(pressed, treadles):
    """What walk must answer if these are pressed, found by trying all ways to stand."""
    anywhere = list(itertools.combinations(range(treadles), 2))
    places = [[place for place in anywhere if set(row) <= set(place)] for row in pressed]
    far = {}
    for way in itertools.product(*places):
        distance = sum(abs(a[0] - b[0]) + abs(a[1] - b[1]) for a, b in itertools.pairwise(way))
        far.setdefault(distance, []).append(way)
    least = min(far)
    return told_walk(least, len(far[least]), *min(far[least]))


if __name__ == "__main__":
    unittest.main()
