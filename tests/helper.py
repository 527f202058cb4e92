"""What the tests share: calls as numbers, and a test case that checks a line of them."""

import unittest

from treadles import loom

HIGHEST = 4294967295


def begins(shafts):
    return [0, shafts]


def picks(*lifts):
    return [1, len(lifts), *lifts]


def lifts():
    return [2]


def fewest(feet):
    return [3, feet]


def press(feet, *treadles):
    return [4, feet, len(treadles), *treadles]


def walk(*treadles):
    return [5, len(treadles), *treadles]


def told_lifts(*counts):
    """What lifts answers where the picks have these lifts, each given with how many picks have it."""
    numbers = [len(counts)]
    for lift, count in counts:
        numbers += [2, lift, count]
    return numbers


def told_fewest(sets, *earliest):
    """What fewest answers where so many sets do, and this is the earliest."""
    return [len(earliest), 1, sets, len(earliest), *earliest]


def told_press(*pressed):
    """What press answers where these treadles are pressed, a list for each pick."""
    numbers = [sum(len(row) for row in pressed)]
    for row in pressed:
        numbers += [len(row), *row]
    return numbers


def told_walk(distance, ways, *places):
    """What walk answers where the feet go so far in so many ways, earliest from place to place of these."""
    numbers = [distance, 1, ways]
    for left, right in places:
        numbers += [2, left, right]
    return numbers


class LoomTest(unittest.TestCase):
    def check(self, *pairs):
        """Hand in all calls in one list; each pair is a call and the numbers that it must answer."""
        calls = []
        expected = []
        for call, answer in pairs:
            calls += call
            expected += [len(answer), *answer]
        told = loom.answers(calls)
        # assertEqual takes minutes to tell how two long lists differ.
        if told != expected:
            self.fail(f"calls {calls}: answered {told}, not {expected}")

    def check_on(self, shafts, lifts_picked, *pairs):
        """The same on a loom that has so many shafts and these picks."""
        self.check((begins(shafts), [0]), (picks(*lifts_picked), [len(lifts_picked)]), *pairs)
