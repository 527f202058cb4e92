"""Which treadles are pressed to make a lift; ties tells of each treadle the set of shafts that it is tied to."""


def first_ways(ties, feet):
    """Of each lift that can be made with so many feet: the first way, the pressed treadles rising."""
    ways = {0: []}
    rows = [[]]
    for foot in range(min(feet, len(ties))):
        rows = rows_one_longer(rows, len(ties))
        for row in rows:
            # Fewer treadles come ahead of more, and of as many the earlier: the way that stands already is the first.
            ways.setdefault(lifted(row, ties), row)
    return ways


def rows_one_longer(rows, treadles_there):
    """Each row of treadles with each higher treadle behind it; what is in order stays in order."""
    longer = []
    for row in rows:
        start = row[-1] + 1 if row else 0
        longer.extend([row + [treadle] for treadle in range(start, treadles_there)])
    return longer


def lifted(row, ties):
    """The set of shafts that these treadles lift together."""
    shaft_set = 0
    for treadle in row:
        shaft_set = shaft_set | ties[treadle]
    return shaft_set
