"""How two feet go from pick to pick; a place is the treadle under the left foot, then the one under the right."""


class Onward:
    """How far it is at the least from a place on, in how many ways, and the earliest of them."""

    def __init__(self, distance, ways, following, beyond):
        self.distance = distance
        self.ways = ways
        # The place at the next pick and what is onward from there; both None behind the last pick.
        self.following = following
        self.beyond = beyond

    def path(self):
        """The places of the earliest way, pick by pick."""
        places = []
        onward = self
        while onward.following is not None:
            places.append(onward.following)
            onward = onward.beyond
        return places


def shortest_walk(places_by_pick):
    """What is onward from the beginning, if the feet stand at one of its places at each pick."""
    ahead = {}
    for places in reversed(places_by_pick):
        here = {}
        for place in places:
            here[place] = onward_from(place, ahead)
        ahead = here
    return onward_from(None, ahead)


def onward_from(place, ahead):
    """What is onward from a place; ahead tells it of each place of the next pick, the earliest first."""
    if not ahead:
        return Onward(0, 1, None, None)
    best = None
    for following, beyond in ahead.items():
        distance = gone(place, following) + beyond.distance
        # Of places that are as far the earliest stays: it came first.
        if best is None or distance < best.distance:
            best = Onward(distance, beyond.ways, following, beyond)
        elif distance == best.distance:
            best.ways += beyond.ways
    return best


def gone(place, following):
    """How far both feet go from place to place."""
    # The feet stand from the beginning where the first pick has them.
    if place is None:
        return 0
    return abs(place[0] - following[0]) + abs(place[1] - following[1])


def places_over(row, treadles_there):
    """The places, the earliest first, where each of these treadles is under a foot."""
    places = []
    for left in range(treadles_there):
        for right in range(left + 1, treadles_there):
            if all([treadle in (left, right) for treadle in row]):
                places.append((left, right))
    return places
