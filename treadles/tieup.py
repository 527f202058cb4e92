"""The least sets of treadles that make lifts; a treadle is told by the set of shafts that it is tied to."""


class TieUp:
    """The sets of shafts that treadles are tied to, rising; of each lift they make, how few are pressed for it."""

    def __init__(self, ties, made):
        self.ties = ties
        self.made = made

    def with_tie(self, tie, feet):
        """These treadles and one more, pressed by so many feet at once."""
        more = dict(self.made)
        for lift, pressed in self.made.items():
            # A lift that isn't made yet counts as if it took more than there are feet.
            if pressed + 1 < more.get(lift | tie, feet + 1):
                more[lift | tie] = pressed + 1
        return TieUp(self.ties + [tie], more)

    def first_not_made(self, lifts):
        """The first of the lifts that these treadles don't make, or None."""
        for lift in lifts:
            if lift not in self.made:
                return lift
        return None

    def with_one_more(self, lifts, feet):
        """These treadles with each further one that may still lead to all lifts, rising."""
        # Ties are taken rising, and one tied to more than a lift's number can't help to make it:
        # so none beyond the first lift that isn't made is of use.
        start = self.ties[-1] + 1 if self.ties else 1
        return [self.with_tie(tie, feet) for tie in range(start, self.first_not_made(lifts) + 1)]


def least_sets(lifts, feet):
    """Each set of as few treadles as can be that makes the lifts, which are rising; the earliest set is the first."""
    tie_ups = [TieUp([], {0: 0})]
    done = sets_that_do(tie_ups, lifts)
    while tie_ups and not done:
        tie_ups = tie_ups_one_larger(tie_ups, lifts, feet)
        done = sets_that_do(tie_ups, lifts)
    return done


def tie_ups_one_larger(tie_ups, lifts, feet):
    """Each of these, none of which makes all lifts, with one more treadle; what is in order stays in order."""
    larger = []
    for tie_up in tie_ups:
        larger.extend(tie_up.with_one_more(lifts, feet))
    return larger


def sets_that_do(tie_ups, lifts):
    """The sets of ties, in their order, of those that make all lifts."""
    return [tie_up.ties for tie_up in tie_ups if tie_up.first_not_made(lifts) is None]
