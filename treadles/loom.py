"""The calls on one loom, read from one list of numbers and answered in another."""

from treadles.pressing import first_ways
from treadles.state import NOT_MADE, OUT_OF_RANGE, Loom
from treadles.tieup import least_sets
from treadles.walking import places_over, shortest_walk

BEGINS = 0
PICKS = 1
LIFTS = 2
FEWEST = 3
PRESS = 4
WALK = 5

MOST_FEET = 3
WALKING_FEET = 2


class UnknownCall(ValueError):
    """A call's number is not one that is answered here."""


class Reader:
    """Reads numbers and counted lists, one behind another, from a list that it leaves as it is."""

    def __init__(self, numbers):
        self.numbers = numbers
        self.place = 0

    def at_end(self):
        return self.place >= len(self.numbers)

    def take_number(self):
        number = self.numbers[self.place]
        self.place += 1
        return number

    def take_list(self):
        """The next list, which stands behind how many numbers it has."""
        length = self.take_number()
        start = self.place
        self.place = start + length
        return self.numbers[start:self.place]


def answers(calls):
    """Carry out the calls on a new loom; give back each call's answer behind how many numbers it has."""
    reader = Reader(calls)
    loom = Loom()
    told = []
    while not reader.at_end():
        answer = answer_next(loom, reader)
        told.append(len(answer))
        told.extend(answer)
    return told


def answer_next(loom, reader):
    """Read one call, carry it out, and give back the numbers of its answer."""
    call = reader.take_number()
    if call == BEGINS:
        return [loom.begin(reader.take_number())]
    if call == PICKS:
        return [loom.add_picks(reader.take_list())]
    if call == LIFTS:
        counts = loom.lift_counts()
        return [len(counts)] + counted_lists(counts)
    if call == FEWEST:
        return fewest(loom, reader.take_number())
    if call == PRESS:
        feet = reader.take_number()
        return press(loom, feet, reader.take_list())
    if call == WALK:
        return walk(loom, reader.take_list())
    raise UnknownCall(f"no call has the number {call}")


def fewest(loom, feet):
    """How few treadles make all lifts with so many feet, how many sets of so many do, and the earliest of these."""
    if not feet_in_range(feet):
        return [OUT_OF_RANGE]
    sets = least_sets(loom.lifts_needed(), feet)
    return [len(sets[0])] + counted_lists([[len(sets)], sets[0]])


def press(loom, feet, ties):
    """How many treadles are pressed, and which for each pick; or the first pick whose lift isn't made."""
    if not feet_in_range(feet) or not loom.may_have_treadles(ties):
        return [OUT_OF_RANGE]
    ways = first_ways(ties, feet)
    not_made = loom.first_not_in(ways)
    if not_made is not None:
        return [NOT_MADE] + counted_lists([[not_made]])
    pressed = loom.pressed_by(ways)
    return [sum([len(row) for row in pressed])] + counted_lists(pressed)


def walk(loom, ties):
    """How far two feet go at the least, in how many ways, and the earliest of these."""
    # Two feet stand on two treadles.
    if len(ties) < WALKING_FEET or not loom.may_have_treadles(ties):
        return [OUT_OF_RANGE]
    ways = first_ways(ties, WALKING_FEET)
    if loom.first_not_in(ways) is not None:
        return [NOT_MADE]
    shortest = shortest_walk([places_over(row, len(ties)) for row in loom.pressed_by(ways)])
    return [shortest.distance] + counted_lists([[shortest.ways]] + shortest.path())


def feet_in_range(feet):
    return feet >= 1 and feet <= MOST_FEET


def counted_lists(lists):
    """The lists in one row, each behind how many numbers it has."""
    row = []
    for numbers in lists:
        row.append(len(numbers))
        row.extend(numbers)
    return row
