"""Ways: from which POINTS there are ways to which others behind a HISTORY, and who may go."""

from landpoints.areas import is_in, is_let_spot, is_world
from landpoints.deeds import alike_spots, enough_firsts, is_way, people_of, samples, without
from landpoints.errors import NoPoint, Unfit
from landpoints.paths import Paths, pairs_in
from landpoints.values import as_tuples


def way_behind(history, near, first, far, last):
    """Whether there is a way from a POINT in near to one in far behind the HISTORY."""
    return Paths(history).has_way((as_tuples(near), first), (as_tuples(far), last))


def way_along(history, near, first, far, last):
    """The tuple that tells if there is such a way ahead of all DEEDS, behind the first one, and so on."""
    return Paths(history).along((as_tuples(near), first), (as_tuples(far), last))


def ways_in(chart, history, world):
    """The set of the pairs of places of POINTS such that there is a way from the one to the other."""
    paths, points = Paths(history), points_of(world)
    places = range(len(points))
    return tuple([(place, goal) for place in places for goal in places if paths.has_way(points[place], points[goal])])


def goes_in(chart, history, world, place, goal):
    """Whether one may go from the POINT at place over that at goal."""
    check_points(world, (place, goal))
    points = points_of(world)
    return Paths(history).may_pass(points[place], points[goal])


def ended_in(chart, history, world, place, goal):
    """The set of the places of the DEEDS that end a way from the POINT at place to that at goal."""
    check_points(world, (place, goal))
    points = points_of(world)
    return tuple(ends_along(Paths(history).along(points[place], points[goal])))


def all_may_go(chart, history, cut, over):
    """Whether one may go from each POINT in cut over each one in over."""
    return no_go(chart, history, cut, over) is None


def no_go(chart, history, cut, over):
    """A WORLD of two POINTS, one in cut, one in over, such that one may not go; None if there is none."""
    paths = Paths(history)
    for near, far in pairs_over(chart, history, cut, over):
        if not paths.may_pass(near, far):
            return world_of(near, far)
    return None


def is_no_go(chart, history, cut, over, thing):
    """Whether thing is a WORLD in which one may not go from some POINT in cut over one in over."""
    if not is_world(chart, thing):
        return False
    paths = Paths(history)
    return any([not paths.may_pass(near, far) for near, far in pairs_among(thing, history, cut, over)])


def may_go(chart, history, person, cut, over):
    """Whether one may go from each POINT in cut that is then this person's over each one in over."""
    paths, firsts = Paths(history), enough_firsts(history, (person,))
    pairs = pairs_by(chart, history, firsts, cut, over)
    return all([paths.may_pass(near, far) for near, far in pairs if paths.track(near)[-1] == person])


def none_has_way(chart, history, cut, over):
    """Whether there is no way from any POINT in cut to any one in over."""
    return a_way(chart, history, cut, over) is None


def a_way(chart, history, cut, over):
    """A WORLD of two POINTS with a way from the one, in cut, to the other, in over; None if there is none."""
    paths = Paths(history)
    for near, far in pairs_over(chart, history, cut, over):
        if paths.has_way(near, far):
            return world_of(near, far)
    return None


def is_a_way(chart, history, cut, over, thing):
    """Whether thing is a WORLD in which there is a way from some POINT in cut to one in over."""
    if not is_world(chart, thing):
        return False
    paths = Paths(history)
    return any([paths.has_way(near, far) for near, far in pairs_among(thing, history, cut, over)])


def served(chart, history):
    """The LAND from which there can be a way."""
    paths, pairs = Paths(history), pairs_over(chart, history, ((),), ((),))
    return alike_spots(chart, history, [near[0] for near, far in pairs if paths.has_way(near, far)])


def borne(chart, history):
    """The LAND to which there can be a way."""
    paths, pairs = Paths(history), pairs_over(chart, history, ((),), ((),))
    return alike_spots(chart, history, [far[0] for near, far in pairs if paths.has_way(near, far)])


def can_cross(chart, history, near):
    """The LAND to which there can be a way from a POINT in near."""
    paths, crossings = Paths(history), crossings_from(chart, history, near)
    return alike_spots(chart, history, [far[0] for start, far in crossings if paths.has_way(start, far)])


def sure_cross(chart, history, near):
    """The LAND over each POINT of which one may go from each POINT in near."""
    paths, crossings = Paths(history), crossings_from(chart, history, near)
    closed = {far[0]: True for start, far in crossings if not paths.may_pass(start, far)}
    return alike_spots(chart, history, [far[0] for _, far in crossings if far[0] not in closed])


def ending_deeds(chart, history):
    """The set of the places of the DEEDS that end a way in some WORLD."""
    paths, found = Paths(history), {}
    for near, far in pairs_over(chart, history, ((),), ((),)):
        for place in ends_along(paths.along(near, far)):
            found[place] = True
    return tuple(sorted(found))


def idle_ways(chart, history):
    """The set of the places of the way deeds without each of which there are the same ways."""
    pairs = pairs_over(chart, history, ((),), ((),))
    ways = ways_among(history, pairs)
    places = [place for place, deed in enumerate(history) if is_way(deed)]
    return tuple([place for place in places if ways_among(without(history, (place,)), pairs) == ways])


def same_ways(chart, one, other):
    """Whether there are the same ways behind both HISTORIES."""
    return unlike_ways(chart, one, other) is None


def unlike_ways(chart, one, other):
    """A WORLD of two POINTS with a way from one to other behind one HISTORY alone; None if there is none."""
    near_paths, far_paths = Paths(one), Paths(other)
    for near, far in pairs_over(chart, as_tuples(one) + as_tuples(other), ((),), ((),)):
        if near_paths.has_way(near, far) != far_paths.has_way(near, far):
            return world_of(near, far)
    return None


def is_unlike_ways(chart, one, other, thing):
    """Whether thing is a WORLD in which there is a way behind one of both HISTORIES alone."""
    if not is_world(chart, thing):
        return False
    near_paths, far_paths = Paths(one), Paths(other)
    pairs = pairs_in(thing, people_of(as_tuples(one) + as_tuples(other)))
    return any([near_paths.has_way(near, far) != far_paths.has_way(near, far) for near, far in pairs])


def check_points(world, places):
    """Raises NoPoint for the first of these numbers that is no place of a POINT of the WORLD."""
    for place in places:
        if not 0 <= place < len(world):
            raise NoPoint(place)


def points_of(world):
    """The list of the pairs (spot, first) of the POINTS of the WORLD."""
    return [(spot, first) for spot, _, first in as_tuples(world)]


def world_of(near, far):
    """The WORLD of these two POINTS."""
    return (near[0], 1, near[1]), (far[0], 1, far[1])


def ends_along(truths):
    """The list of the places of the DEEDS ahead of which there is a way, and none behind."""
    return [place for place in range(len(truths) - 1) if truths[place] and not truths[place + 1]]


def ways_among(history, pairs):
    """The list that tells of each of these pairs of POINTS if there is a way behind the HISTORY."""
    paths = Paths(history)
    return [paths.has_way(near, far) for near, far in pairs]


def pairs_over(chart, history, cut, over):
    """All that is to be asked of pairs of POINTS in cut, in over, FOR ALL WORLDS."""
    return pairs_by(chart, history, enough_firsts(history, ()), cut, over)


def pairs_by(chart, history, firsts, cut, over):
    """The list of the pairs of POINTS of these first owners in cut, in over, one SPOT for all that are alike."""
    spots = [land[0] for land in samples(chart, list(history) + [("way", cut, over)])]
    starts = [(spot, first) for spot in spots if is_in(spot, cut) for first in firsts]
    ends = [(spot, last) for spot in spots if is_in(spot, over) for last in firsts]
    return [(near, far) for near in starts for far in ends]


def pairs_among(world, history, cut, over):
    """All that is to be asked of pairs of POINTS of the WORLD, the one in cut, the other in over."""
    pairs = pairs_in(world, people_of(history))
    return [(near, far) for near, far in pairs if is_in(near[0], cut) and is_in(far[0], over)]


def crossings_from(chart, history, near):
    """All that is to be asked of pairs of POINTS the first of which is in near; raises Unfit if it is not let."""
    start = as_tuples(near)
    if not is_let_spot(chart, start):
        raise Unfit()
    firsts = enough_firsts(history, ())
    ends = [(land[0], last) for land in samples(chart, history) for last in firsts]
    return [((start, first), far) for first in firsts for far in ends]
