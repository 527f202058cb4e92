"""The calls on one loom, read from one list of numbers and answered in another."""

from treadles.state import Loom

BEGINS = 0
PICKS = 1
LIFTS = 2


class UnknownCall(ValueError):
    """A call's number is not one that is answered here."""


class Reader:
    """Reads numbers and counted lists, one behind another, from a list that it leaves as it is."""

    def __init__(self, numbers):
        self.numbers = numbers
        self.place = 0

    def at_end(self):
        return self.place >= len(self.numbers)

    def take_number(self):
        number = self.numbers[self.place]
        self.place += 1
        return number

    def take_list(self):
        """The next list, which stands behind how many numbers it has."""
        length = self.take_number()
        start = self.place
        self.place = start + length
        return self.numbers[start:self.place]


def answers(calls):
    """Carry out the calls on a new loom; give back each call's answer behind how many numbers it has."""
    reader = Reader(calls)
    loom = Loom()
    told = []
    while not reader.at_end():
        answer = answer_next(loom, reader)
        told.append(len(answer))
        told.extend(answer)
    return told


def answer_next(loom, reader):
    """Read one call, carry it out, and give back the numbers of its answer."""
    call = reader.take_number()
    if call == BEGINS:
        return [loom.begin(reader.take_number())]
    if call == PICKS:
        return [loom.add_picks(reader.take_list())]
    if call == LIFTS:
        counts = loom.lift_counts()
        return [len(counts)] + counted_lists(counts)
    raise UnknownCall(f"no call has the number {call}")


def counted_lists(lists):
    """The lists in one row, each behind how many numbers it has."""
    row = []
    for numbers in lists:
        row.append(len(numbers))
        row.extend(numbers)
    return row
