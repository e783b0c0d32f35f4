"""Paths: the ways from POINT to POINT behind a HISTORY; a POINT is told here by its SPOT and its first owner."""

from landpoints.areas import is_in
from landpoints.deeds import is_way, owners_by, turns_at
from landpoints.values import as_tuples


class Paths:
    """A HISTORY that is asked for ways, and keeps what it was asked before."""

    def __init__(self, history):
        self.deeds = as_tuples(history)
        self.turns = {}
        self.tracks = {}
        self.marks = {}

    def track(self, point):
        """The tuple of the owners of the POINT: at first, behind the first DEED, and so on."""
        if point not in self.tracks:
            spot, first = point
            if spot not in self.turns:
                self.turns[spot] = turns_at(self.deeds, spot)
            self.tracks[point] = owners_by(self.turns[spot], first)
        return self.tracks[point]

    def mark(self, spot):
        """The list, by places, of pairs that tell if the SPOT is in cut, in over of a way deed there."""
        if spot not in self.marks:
            self.marks[spot] = [way_mark(deed, spot) for deed in self.deeds]
        return self.marks[spot]

    def along(self, near, far):
        """The tuple that tells if there is a way ahead of all DEEDS, behind the first one, and so on."""
        owners, others = self.track(near), self.track(far)
        starts, ends = self.mark(near[0]), self.mark(far[0])
        found = [False]
        for place, deed in enumerate(self.deeds):
            there = deed[0] == "way" if starts[place][0] and ends[place][1] else found[-1]
            found.append(there and owners[place + 1] != others[place + 1])
        return tuple(found)

    def has_way(self, near, far):
        """Whether there is a way from the one POINT to the other behind all DEEDS."""
        owners, others = self.track(near), self.track(far)
        starts, ends = self.mark(near[0]), self.mark(far[0])
        for place in range(len(self.deeds) - 1, -1, -1):
            if owners[place + 1] == others[place + 1]:
                return False
            if starts[place][0] and ends[place][1]:
                return self.deeds[place][0] == "way"
        return False

    def may_pass(self, near, far):
        """Whether one may go from the one POINT over the other behind all DEEDS."""
        return self.track(near)[-1] == self.track(far)[-1] or self.has_way(near, far)


def way_mark(deed, spot):
    """Whether the DEED is on ways and the SPOT is in its cut, and in what lies over."""
    if not is_way(deed):
        return False, False
    return is_in(spot, deed[1]), is_in(spot, deed[2])


def pairs_in(world, people):
    """All that is to be asked of pairs of POINTS of the WORLD, strangers to these people being alike."""
    known, others = {}, {}
    for spot, _, first in world:
        found = known if first in people else others
        found.setdefault(spot, {})[first] = True
    spots = list({spot: True for spot, _, _ in world})
    pairs = []
    for near in spots:
        for far in spots:
            starts, ends = others.get(near, {}), others.get(far, {})
            # Of two strangers it only tells if they are one.
            both = [name for name in starts if name in ends][:1]
            pairs.extend([((near, name), (far, name)) for name in both])
            starts, ends = list(known.get(near, {})) + list(starts)[:2], list(known.get(far, {})) + list(ends)[:2]
            pairs.extend([((near, first), (far, last)) for first in starts for last in ends])
    return pairs
