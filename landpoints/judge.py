"""One judge of PROMISES FOR ALL WORLDS: which ones hold, and which WORLDS of a few POINTS are PAPERS against them."""

from landpoints.areas import is_cut, is_in, is_world, let_spots, without_bare
from landpoints.charges import charges_behind, is_ahead
from landpoints.deeds import is_whole, without
from landpoints.errors import CanNot, Unfit
from landpoints.plans import is_parcels, is_wrong
from landpoints.rents import is_less_paper, is_rent, less_paper
from landpoints.titles import is_history, is_plain_history
from landpoints.values import all_parts, as_tuples, is_name, is_number
from landpoints.ways import a_way, check_points, is_a_way, is_no_go, no_go
from landpoints.wholes import is_split_world, let_wholes, lost_world, many_points, owners_in, refused_world, split_world

# What stands behind the word of a PROMISE.
MEMBERS = {"none": ("cut",), "within": ("cut", "cut"), "parcels": ("parcels",), "has": ("history", "name", "cut"),
           "owners": ("history", "history"), "let": ("history", "number"), "go": ("deeds", "cut", "cut"),
           "no way": ("deeds", "cut", "cut"), "ahead": ("history", "name", "name", "cut"),
           "rent": ("rent", "rent", "number")}


def is_promise(chart, thing):
    """Whether thing is a PROMISE of the MAP."""
    if not isinstance(thing, tuple) or not thing or not isinstance(thing[0], str) or thing[0] not in MEMBERS:
        return False
    kinds = MEMBERS[thing[0]]
    if len(thing) != 1 + len(kinds):
        return False
    if not all([is_member(chart, kind, member) for kind, member in zip(kinds, thing[1:])]):
        return False
    if thing[0] == "let":
        return 0 <= thing[2] < len(thing[1]) and is_whole(thing[1][thing[2]])
    return thing[0] != "ahead" or thing[2] != thing[3]


def is_paper(chart, promise, thing):
    """Whether thing is a PAPER against the PROMISE."""
    told = promised(chart, promise)
    return is_world(chart, thing) and is_against(chart, told, thing)


def holds(chart, promise):
    """Whether the PROMISE holds."""
    return a_paper(chart, promise) is None


def a_paper(chart, promise):
    """A PAPER of as few POINTS as can be against the PROMISE; None if it holds."""
    told = promised(chart, promise)
    word = told[0]
    if word == "has":
        return lost_world(chart, told[1], told[2], told[3])
    if word == "owners":
        return split_world(chart, told[1], told[2])
    if word == "let":
        return refused_world(chart, told[1], told[2])
    if word == "go":
        return no_go(chart, told[1], told[2], told[3])
    if word == "no way":
        return a_way(chart, told[1], told[2], told[3])
    if word == "rent":
        return less_paper(chart, told[1], told[2], told[3])
    for spot in let_spots(chart):
        if is_against_at(told, spot):
            return ((spot, 1, "a"),)
    return None


def paper_size(chart, promise):
    """How few POINTS a PAPER against the PROMISE has; None if it holds."""
    return many_points(a_paper(chart, promise))


def wanted_points(chart, promise, world):
    """The fewest places whose POINTS alone are a PAPER against the PROMISE, the least such set."""
    told, points = promised(chart, promise), as_tuples(world)
    if not is_against(chart, told, points):
        raise Unfit()
    places = tuple(range(len(points)))
    for _, part in sorted([(len(some), some) for some in all_parts(places)]):
        if is_against(chart, told, tuple([points[place] for place in part])):
            return part
    return places


def is_cut_paper(chart, promise, world, place):
    """Whether the WORLD without the POINT at this place is a PAPER against the PROMISE."""
    told, points = promised(chart, promise), as_tuples(world)
    check_points(points, (place,))
    return is_against(chart, told, points[:place] + points[place + 1:])


def what_falls(chart, condition, promises):
    """The set of the places of the PROMISES that hold, but not without this CONDITION in the survey."""
    told = [promised(chart, promise) for promise in promises]
    wider = without_bare(chart, condition)
    return tuple([at for at, promise in enumerate(told) if holds(chart, promise) and not holds(wider, promise)])


def surveys_under(chart, promise):
    """The set of the CONDITIONS of the survey without each of which alone the PROMISE does not hold."""
    told = held(chart, promise)
    bare = as_tuples(chart[1])
    return tuple([condition for condition in bare if not holds(without_bare(chart, condition), told)])


def fewest_surveys(chart, promise):
    """The fewest CONDITIONS of the survey with which alone the PROMISE holds, the least such set."""
    told = held(chart, promise)
    areas, bare = as_tuples(chart)
    papers = []
    for _, kept in sorted([(len(part), part) for part in all_parts(bare)]):
        # Most sets fall by a PAPER that was found for one of those ahead.
        if any([is_world((areas, kept), paper) for paper in papers]):
            continue
        paper = a_paper((areas, kept), told)
        if paper is None:
            return kept
        papers.append(paper)
    return bare


def deeds_under(chart, promise):
    """The set of the places of the DEEDS of the first HISTORY without each of which alone it does not hold."""
    told = held(chart, promise)
    if MEMBERS[told[0]][0] not in ("history", "deeds"):
        return ()
    places = [place for place in range(len(told[1])) if told[0] != "let" or place != told[2]]
    return tuple([place for place in places if not holds(chart, without_deed(told, place))])


def is_member(chart, kind, thing):
    """Whether thing is of this kind, one of those that stand in PROMISES."""
    if kind == "cut":
        return is_cut(chart[0], thing)
    if kind == "parcels":
        return is_parcels(chart, thing)
    if kind == "history":
        return is_history(chart, thing)
    if kind == "deeds":
        return is_plain_history(chart, thing)
    if kind == "rent":
        return is_rent(chart, thing)
    return is_name(thing) if kind == "name" else is_number(thing)


def promised(chart, promise):
    """The PROMISE with tuples for lists; raises Unfit if it is none."""
    told = as_tuples(promise)
    if not is_promise(chart, told):
        raise Unfit()
    return told


def held(chart, promise):
    """The PROMISE with tuples for lists; raises Unfit if it is none, CanNot if it does not hold."""
    told = promised(chart, promise)
    if not holds(chart, told):
        raise CanNot()
    return told


def is_against(chart, promise, world):
    """Whether the PROMISE is not so in the WORLD."""
    word = promise[0]
    if word == "has":
        owners = owners_in(world, promise[1])
        return any([owner != promise[2] and is_in(point[0], promise[3]) for point, owner in zip(world, owners)])
    if word == "owners":
        return is_split_world(chart, promise[1], promise[2], world)
    if word == "let":
        return promise[2] not in let_wholes(world, promise[1])
    if word == "go":
        return is_no_go(chart, promise[1], promise[2], promise[3], world)
    if word == "no way":
        return is_a_way(chart, promise[1], promise[2], promise[3], world)
    if word == "rent":
        return is_less_paper(chart, promise[1], promise[2], promise[3], world)
    spots = list({spot: True for spot, _, _ in world})
    return any([is_against_at(promise, spot) for spot in spots])


def is_against_at(promise, spot):
    """Whether each POINT in the SPOT is against the PROMISE, one of those that are told by SPOTS alone."""
    if promise[0] == "none":
        return is_in(spot, promise[1])
    if promise[0] == "within":
        return is_in(spot, promise[1]) and not is_in(spot, promise[2])
    if promise[0] == "parcels":
        return is_wrong(promise[1], spot)
    return is_in(spot, promise[4]) and is_ahead(charges_behind(promise[1], spot), promise[3], promise[2])


def without_deed(promise, place):
    """The PROMISE without the DEED at this place in its first HISTORY."""
    left = (promise[0], tuple(without(promise[1], (place,))))
    if promise[0] == "let" and place < promise[2]:
        return left + (promise[2] - 1,)
    return left + promise[2:]
