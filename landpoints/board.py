"""A Board: a MAP, a HISTORY, a WORLD and CUTS that are kept, as they are so far; each deed of it can be taken back."""

from landpoints.areas import is_in, is_let_spot, keeps, land_of, with_area, with_bare, without_bare
from landpoints.charges import charges_behind
from landpoints.deeds import check_places, fates_at, is_whole, without
from landpoints.errors import CanNot, Known, NothingDone, Unfit
from landpoints.values import as_tuples
from landpoints.ways import check_points, ways_in
from landpoints.wholes import let_wholes, owners_in, played


class Board:
    """A MAP, a HISTORY of it, a WORLD of it, and CUTS kept under NAMES."""

    def __init__(self, areas):
        # All that is so now: the MAP, the HISTORY, the WORLD, and the ascending pairs of the CUTS that are kept.
        self._now = ((as_tuples(areas), ()), (), (), ())
        # For each deed that can be taken back what was so ahead of it, and the place of the POINT that left by it.
        self._past = []

    def __eq__(self, other):
        return isinstance(other, Board) and self._now == other._now

    def __len__(self):
        return len(self._past)

    def area(self, name):
        """One more of the AREAS, in which no POINT lies."""
        chart, history, world, kept = self._now
        self._go_on(with_area(chart, name), history, world, kept)

    def survey(self, condition):
        """The CONDITION is in the survey from now on."""
        chart, history, world, kept = self._now
        if any([keeps(point[0], condition) for point in world]):
            raise Unfit()
        self._go_on(with_bare(chart, condition), history, world, kept)

    def doubt(self, condition):
        """The CONDITION is not in the survey any more."""
        chart, history, world, kept = self._now
        if as_tuples(condition) not in chart[1]:
            raise CanNot()
        self._go_on(without_bare(chart, condition), history, world, kept)

    def write(self, deed):
        """The DEED comes behind all others."""
        chart, history, world, kept = self._now
        self._go_on(chart, history + (as_tuples(deed),), world, kept)

    def strike(self, place):
        """The DEED at this place goes."""
        chart, history, world, kept = self._now
        check_places(history, (place,))
        self._go_on(chart, tuple(without(history, (place,))), world, kept)

    def exchange(self, place):
        """The DEED at this place and the next one change places."""
        chart, history, world, kept = self._now
        check_places(history, (place, place + 1))
        both = (history[place + 1], history[place])
        self._go_on(chart, history[:place] + both + history[place + 2:], world, kept)

    def point(self, spot, size, first):
        """A POINT comes behind all others."""
        chart, history, world, kept = self._now
        where = as_tuples(spot)
        if not is_let_spot(chart, where) or size < 1:
            raise Unfit()
        self._go_on(chart, history, world + ((where, size, first),), kept)

    def leave(self, place):
        """The POINT at this place goes."""
        chart, history, world, kept = self._now
        check_points(world, (place,))
        self._past.append((self._now, place))
        self._now = (chart, history, world[:place] + world[place + 1:], kept)

    def keep(self, name, cut):
        """The CUT is kept under this NAME."""
        chart, history, world, kept = self._now
        if self._cut(name) is not None:
            raise Known(name)
        self._go_on(chart, history, world, tuple(sorted(kept + ((name, as_tuples(cut)),))))

    def drop(self, name):
        """The CUT under this name is kept no more."""
        chart, history, world, kept = self._now
        self._kept_cut(name)
        self._go_on(chart, history, world, tuple([pair for pair in kept if pair[0] != name]))

    def undo(self):
        """Takes back the last deed that is not taken back."""
        if not self._past:
            raise NothingDone()
        self._now, _ = self._past.pop()

    def twin(self):
        """An equal Board with the same deeds to be taken back, that shares nothing with this one."""
        mate = Board(())
        mate._now = self._now
        mate._past = list(self._past)
        return mate

    def chart(self):
        """The MAP."""
        return self._now[0]

    def history(self):
        """The HISTORY."""
        return self._now[1]

    def world(self):
        """The WORLD."""
        return self._now[2]

    def kept(self):
        """The ascending tuple of the pairs (name, cut) of the CUTS that are kept."""
        return self._now[3]

    def owners(self):
        """The tuple of the owners of the POINTS."""
        return owners_in(self._now[2], self._now[1])

    def ways(self):
        """The set of the pairs of places of POINTS such that there is a way from the one to the other."""
        return ways_among_points(self._now[0], self._now[1], self._now[2])

    def charges(self, place):
        """The tuple of the charges at this POINT, the first one ahead."""
        _, history, world, _ = self._now
        check_points(world, (place,))
        return charges_behind(history, world[place][0])

    def size(self, name):
        """The size of the POINTS that this person owns."""
        world = self._now[2]
        return sum([point[1] for point, owner in zip(world, self.owners()) if owner == name])

    def inside(self, name):
        """The set of the places of the POINTS in this CUT."""
        cut = self._kept_cut(name)
        return tuple([place for place, point in enumerate(self._now[2]) if is_in(point[0], cut)])

    def one_owner(self, name):
        """Who owns all POINTS in this CUT; None if there is none, or nobody owns them all."""
        places, owners = self.inside(name), self.owners()
        return one_of_all([owners[place] for place in places])

    def surely(self, name):
        """Who owns all land in this CUT FOR ALL WORLDS; None if there is none, or nobody owns it all."""
        cut = self._kept_cut(name)
        chart, history, _, _ = self._now
        if any([is_whole(deed) for deed in history]):
            raise Unfit()
        return one_of_all([fates_at(history, spot).get("") for spot in land_of(chart, cut)])

    def changed(self):
        """The set of the places of the POINTS that have another owner than ahead of the last deed."""
        if not self._past:
            return ()
        ahead, gone = self._past[-1]
        owners = [owner for place, owner in enumerate(owners_in(ahead[2], ahead[1])) if place != gone]
        # A POINT that came by the deed is the last one, and has no owner ahead of it.
        pairs = list(zip(owners, self.owners()))
        return tuple([place for place, pair in enumerate(pairs) if pair[0] != pair[1]])

    def idle(self):
        """The set of the places of the DEEDS without each of which all is the same for all POINTS."""
        chart, history, world, _ = self._now
        told = told_of_points(chart, history, world)
        rests = [without(history, (place,)) for place in range(len(history))]
        return tuple([place for place, rest in enumerate(rests) if told_of_points(chart, rest, world) == told])

    def _go_on(self, chart, history, world, kept):
        """One more deed, behind which this is so."""
        self._past.append((self._now, None))
        self._now = (chart, history, world, kept)

    def _cut(self, name):
        """The CUT that is kept under this name; None if there is none."""
        cuts = {known: cut for known, cut in self._now[3]}
        return cuts.get(name)

    def _kept_cut(self, name):
        """The CUT that is kept under this name; raises CanNot if there is none."""
        cut = self._cut(name)
        if cut is None:
            raise CanNot()
        return cut


def ways_among_points(chart, history, world):
    """The set of the pairs of places of POINTS with a way from the one to the other behind the HISTORY."""
    return ways_in(chart, played(history, let_wholes(world, history)), world)


def told_of_points(chart, history, world):
    """All that the HISTORY leads to for the POINTS of the WORLD: owners, ways and charges."""
    rows = [charges_behind(history, point[0]) for point in world]
    return owners_in(world, history), ways_among_points(chart, history, world), rows


def one_of_all(owners):
    """The one who is each of these owners; None if there are unlike ones, or no one."""
    return owners[0] if owners and all([owner == owners[0] for owner in owners]) else None
