"""Joins: two books that go on from one HISTORY, and the owners that come of both."""

from landpoints.areas import is_let_spot, is_world, let_spots
from landpoints.deeds import fate, fates_at, is_title, people_of, strangers
from landpoints.errors import Unfit
from landpoints.titles import is_plain_history, making
from landpoints.values import all_parts, as_set, as_tuples


def turned_land(chart, start, one):
    """The LAND on which some POINT has another owner behind start and one than behind start."""
    cases = cases_in(chart, start, one, ())
    return as_set([spot for spot, _, (base, near, _) in cases if near != base])


def parting_land(chart, start, one, other):
    """The LAND on which some POINT has unlike owners by both books."""
    cases = cases_in(chart, start, one, other)
    return as_set([spot for spot, _, (_, near, far) in cases if near != far])


def clash_land(chart, start, one, other):
    """The LAND on which some POINT clashes."""
    cases = cases_in(chart, start, one, other)
    return as_set([spot for spot, _, owners in cases if joined(owners) is None])


def are_joinable(chart, start, one, other):
    """Whether no POINT of any WORLD clashes."""
    return clash_paper(chart, start, one, other) is None


def joined_owner(chart, start, one, other, spot, first):
    """The joined owner of a POINT; None if it clashes."""
    where = as_tuples(spot)
    if not is_let_spot(chart, where):
        raise Unfit()
    return joined(owners_by_books(books_at(start, one, other, where), first))


def joined_in(chart, start, one, other, world):
    """The list of the joined owners of the POINTS of the WORLD, None for those that clash."""
    points = as_tuples(world)
    told = {spot: books_at(start, one, other, spot) for spot, _, _ in points}
    return [joined(owners_by_books(told[spot], first)) for spot, _, first in points]


def clash_paper(chart, start, one, other):
    """A WORLD of one POINT, which clashes; None if both books can be joined."""
    for spot, first, owners in cases_in(chart, start, one, other):
        if joined(owners) is None:
            return ((spot, 1, first),)
    return None


def is_clash_paper(chart, start, one, other, thing):
    """Whether thing is a WORLD of one POINT, which clashes."""
    if not is_world(chart, thing) or len(thing) != 1:
        return False
    spot, _, first = thing[0]
    return joined_owner(chart, start, one, other, spot, first) is None


def unlike_behind(chart, start, one, other):
    """The LAND on which some POINT clashes, or has another owner behind all DEEDS than the joined one."""
    found = []
    row = as_tuples(start) + as_tuples(one) + as_tuples(other)
    ends = {spot: fates_at(row, spot) for spot in let_spots(chart)}
    for spot, first, owners in cases_in(chart, start, one, other):
        # None, if it clashes, is nobody's name.
        if joined(owners) != fate(ends[spot], first):
            found.append(spot)
    return as_set(found)


def joinable_lots(chart, start, books):
    """The ascending list of the sets of places of books each two of which can be joined, in no other such set."""
    places = list(range(len(books)))
    apart = [(one, other) for one in places for other in places
             if one < other and not are_joinable(chart, start, books[one], books[other])]
    fit = [part for part in all_parts(places) if not any([one in part and other in part for one, other in apart])]
    return [part for part in fit if not any([is_lesser(part, wider) for wider in fit])]


def can_be_written(chart, start, one, other):
    """Whether a HISTORY of title deeds writes the join."""
    return written_join(chart, start, one, other) is not None


def written_join(chart, start, one, other):
    """A HISTORY of title deeds that writes the join; None if there is none."""
    wanted = {spot: turns_wanted(start, one, other, spot) for spot in let_spots(chart)}
    lands = {}
    for spot, turns in wanted.items():
        if turns is None:
            return None
        lands.setdefault(tuple(sorted(turns.items())), []).append(spot)
    found = ()
    for turns, land in lands.items():
        found = found + written_turns(chart, turns, exact_cut(chart[0], land))
    return found


def is_written_join(chart, start, one, other, thing):
    """Whether thing is a HISTORY of title deeds, without "whole", that writes the join."""
    if not is_plain_history(chart, thing) or not all([is_title(deed) for deed in thing]):
        return False
    ends = {spot: fates_at(thing, spot) for spot in let_spots(chart)}
    for spot, _, owners in cases_by(chart, start, one, other, people_of(thing)):
        if fate(ends[spot], owners[1]) != joined_or_near(owners):
            return False
    return True


def books_at(start, one, other, spot):
    """What tells of a SPOT the owners behind start, behind start and one, and behind start and other."""
    base = as_tuples(start)
    return fates_at(base, spot), fates_at(base + as_tuples(one), spot), fates_at(base + as_tuples(other), spot)


def owners_by_books(told, first):
    """The triple of the owners behind start, by the one book, and by the other, of what is first's at first."""
    base, near, far = told
    return fate(base, first), fate(near, first), fate(far, first)


def joined(owners):
    """The joined owner, by such a triple; None if the POINT clashes."""
    base, near, far = owners
    if near == base:
        return far
    return near if far in (base, near) else None


def joined_or_near(owners):
    """The joined owner, by such a triple, or the one by the one book if the POINT clashes."""
    goal = joined(owners)
    return owners[1] if goal is None else goal


def cases_in(chart, start, one, other):
    """The list of all that is to be asked of POINTS: a SPOT, a first owner, and the triple of owners."""
    return cases_by(chart, start, one, other, ())


def cases_by(chart, start, one, other, named):
    """Such a list, with these people as first owners, too."""
    people = as_set(people_of(as_tuples(start) + as_tuples(one) + as_tuples(other)) + tuple(named))
    firsts, cases = people + strangers(people, 1), []
    for spot in let_spots(chart):
        told = books_at(start, one, other, spot)
        cases.extend([(spot, first, owners_by_books(told, first)) for first in firsts])
    return cases


def is_lesser(part, wider):
    """Whether the one set is part of the other one, which has more."""
    return len(part) < len(wider) and all([place in wider for place in part])


def turns_wanted(start, one, other, spot):
    """A dict of whose a POINT in the SPOT is to be by whose it is by the one book; None if it cannot be written.

    Under "" stands who is to have it all, strangers' land with it; then nothing else is there.
    """
    people = people_of(as_tuples(start) + as_tuples(one) + as_tuples(other))
    stranger = strangers(people, 1)[0]
    told, turns = books_at(start, one, other, spot), {}
    for first in people + (stranger,):
        owners = owners_by_books(told, first)
        goal = joined_or_near(owners)
        if turns.setdefault(owners[1], goal) != goal:
            return None
    if turns.pop(stranger, stranger) == stranger:
        return turns
    # A stranger's land is turned only by a "vest", and this one turns all.
    goal = joined_or_near(owners_by_books(told, stranger))
    return {"": goal} if all([owner == goal for owner in turns.values()]) else None


def written_turns(chart, turns, cut):
    """A HISTORY that turns the owners in the CUT so, by the pairs of such a dict."""
    goals = {near: goal for near, goal in turns}
    if "" in goals:
        return (("vest", goals[""], cut),)
    for _, goal in turns:
        goals.setdefault(goal, goal)
    return making(chart, tuple(sorted(goals.items())), cut)


def exact_cut(areas, land):
    """The CUT that just the SPOTS of the LAND are in."""
    return as_set([tuple([(name, name in spot) for name in areas]) for spot in land])
