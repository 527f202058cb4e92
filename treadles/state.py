"""The loom that a line of calls is about."""

MOST_SHAFTS = 4
MOST_PICKS = 40
MOST_TREADLES = 8

OUT_OF_RANGE = -1
TOO_MANY_PICKS = -5
NOT_MADE = -6


class Loom:
    """A loom's shafts and its picks' lifts; a set of shafts is a number in which shaft i counts 2^i."""

    def __init__(self):
        self.shafts = 1
        self.picked = []

    def begin(self, shafts):
        """Set the loom up anew with so many shafts and no picks; answer 0, or a refusal."""
        if shafts < 1 or shafts > MOST_SHAFTS:
            return OUT_OF_RANGE
        self.shafts = shafts
        self.picked = []
        return 0

    def add_picks(self, lifts):
        """Put a pick of each lift behind the picks so far; answer how many there are now, or a refusal."""
        # A shaft that there isn't is told ahead of too many picks, and nothing is added until both are ruled out.
        if not self.has_shafts(lifts):
            return OUT_OF_RANGE
        if len(self.picked) + len(lifts) > MOST_PICKS:
            return TOO_MANY_PICKS
        self.picked.extend(lifts)
        return len(self.picked)

    def has_shafts(self, shaft_sets):
        """Whether each set holds only shafts that the loom has."""
        for shaft_set in shaft_sets:
            if shaft_set >> self.shafts != 0:
                return False
        return True

    def may_have_treadles(self, ties):
        """Whether there may be a treadle for each of these sets of shafts, tied to it."""
        return len(ties) <= MOST_TREADLES and self.has_shafts(ties)

    def lifts_needed(self):
        """The different lifts of the picks but the empty one, rising."""
        return [lift for lift in sorted(set(self.picked)) if lift != 0]

    def lift_counts(self):
        """Of each lift but the empty one, rising: the lift and how many picks have it."""
        return [[lift, self.picked.count(lift)] for lift in self.lifts_needed()]

    def first_not_in(self, ways):
        """The first pick whose lift has no way among these, or None."""
        for pick, lift in enumerate(self.picked):
            if lift not in ways:
                return pick
        return None

    def pressed_by(self, ways):
        """Of each pick the treadles that these ways tell for its lift."""
        return [ways[lift] for lift in self.picked]
