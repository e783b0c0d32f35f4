"""Orders: in which other ORDERS the DEEDS of a HISTORY could be done, and lead to the same."""

from landpoints.areas import is_world
from landpoints.charges import charges_behind
from landpoints.deeds import alike_spots, part_owners, people_of
from landpoints.errors import NoDeed, Unfit
from landpoints.paths import Paths, pairs_in
from landpoints.runs import cases_of, is_free, two_runs, whole_run
from landpoints.values import all_parts, as_tuples, is_ascending, is_number, is_row


def is_waits(history, thing):
    """Whether thing is WAITS of the HISTORY."""
    if not isinstance(thing, tuple) or not all([is_wait(history, pair) for pair in thing]):
        return False
    return is_ascending(thing)


def closed_waits(history, waits):
    """The WAITS with all pairs to which these lead, step by step."""
    check_waits(history, waits)
    found = {pair: True for pair in as_tuples(waits)}
    places = range(len(history))
    # What stands between grows, so no pair that is found can lead on to one that was passed.
    for between in places:
        for one in places:
            for far in places:
                if (one, between) in found and (between, far) in found:
                    found[(one, far)] = True
    return tuple(sorted(found))


def is_order(history, waits, thing):
    """Whether thing is an ORDER that the WAITS let."""
    check_waits(history, waits)
    return is_run(history, waits, thing) and len(thing) == len(history)


def how_many_orders(history, waits):
    """How many ORDERS the WAITS let."""
    check_waits(history, waits)
    places = tuple(range(len(history)))
    counts = {(): 1}
    for _ in places:
        later = {}
        for done in counts:
            for place in places:
                if place not in done and is_free(place, waits, done):
                    grown = tuple(sorted(done + (place,)))
                    later[grown] = later.get(grown, 0) + counts[done]
        counts = later
    return counts[places]


def let_orders(history, waits):
    """The ascending list of the ORDERS that the WAITS let."""
    check_waits(history, waits)
    places = range(len(history))
    runs = [()]
    for _ in places:
        runs = [run + (place,) for run in runs for place in places if place not in run and is_free(place, waits, run)]
    return runs


def in_order(history, order):
    """The HISTORY of the DEEDS in this ORDER."""
    if sorted(order) != list(range(len(history))):
        raise Unfit()
    deeds = as_tuples(history)
    return tuple([deeds[place] for place in order])


def waits_hold(chart, history, waits):
    """Whether two runs of the same DEEDS always lead to the same."""
    return waits_paper(chart, history, waits) is None


def end_holds(chart, history, waits):
    """Whether all ORDERS that are let lead to the same."""
    return end_paper(chart, history, waits) is None


def land_apart(chart, history, waits):
    """The LAND of the POINTS that come to unlike owners, charges or ways by two runs of the same DEEDS."""
    closed, spots = closed_waits(history, waits), {}
    for case in cases_of(chart, history):
        known = all([spot in spots for spot, _, _ in case[0]])
        if not known and two_runs(case, closed, False) is not None:
            for spot, _, _ in case[0]:
                spots[spot] = True
    return alike_spots(chart, history, list(spots))


def waits_paper(chart, history, waits):
    """A WORLD, and two runs of the same DEEDS that do not lead to the same in it; None if the WAITS hold."""
    closed = closed_waits(history, waits)
    for case in cases_of(chart, history):
        runs = two_runs(case, closed, False)
        if runs is not None:
            return case[0], whole_run(runs[0], closed, ()), whole_run(runs[1], closed, ())
    return None


def is_waits_paper(chart, history, waits, thing):
    """Whether thing is such a triple."""
    check_waits(history, waits)
    if not is_row(thing, 3) or not is_world(chart, thing[0]):
        return False
    world, one, other = thing
    if not is_run(history, waits, one) or not is_run(history, waits, other):
        return False
    return sorted(one) == sorted(other) and are_unlike(history, world, one, other)


def end_paper(chart, history, waits):
    """A WORLD, and two ORDERS that are let and do not lead to the same in it; None if the WAITS hold the end."""
    closed, places = closed_waits(history, waits), tuple(range(len(history)))
    for case in cases_of(chart, history):
        runs = two_runs(case, closed, True)
        if runs is not None:
            return case[0], whole_run(runs[0], closed, places), whole_run(runs[1], closed, places)
    return None


def is_end_paper(chart, history, waits, thing):
    """Whether thing is such a triple."""
    if not is_waits_paper(chart, history, waits, thing):
        return False
    return len(thing[1]) == len(history)


def loosest_waits(chart, history):
    """The ascending list of the WAITS that are closed and hold, with no lesser part that is and does so."""
    # Where no ORDER at all tells unlike things, no WAITS have to be asked of.
    cases = [case for case in cases_of(chart, history) if two_runs(case, (), False) is not None]
    places = range(len(history))
    pairs = [(one, other) for one in places for other in places if one < other]
    found = []
    for _, waits in sorted([(len(part), part) for part in all_parts(pairs)]):
        if closed_waits(history, waits) != waits or any([is_part(lesser, waits) for lesser in found]):
            continue
        if all([two_runs(case, waits, False) is None for case in cases]):
            found.append(waits)
    return sorted(found)


def needed_waits(chart, history):
    """The set of the pairs that are in all the loosest WAITS."""
    loosest = loosest_waits(chart, history)
    return tuple([pair for pair in loosest[0] if all([pair in waits for waits in loosest])])


def is_wait(history, thing):
    """Whether thing is a pair of places of the HISTORY, one below the other."""
    if not is_row(thing, 2) or not all([is_number(place) for place in thing]):
        return False
    return 0 <= thing[0] < thing[1] < len(history)


def check_waits(history, waits):
    """Raises NoDeed for the first number in waits that is no place, Unfit if they are no WAITS."""
    for pair in waits:
        for place in pair:
            if not 0 <= place < len(history):
                raise NoDeed(place)
    if not is_waits(history, as_tuples(waits)):
        raise Unfit()


def is_run(history, waits, thing):
    """Whether thing is a beginning of an ORDER that the WAITS let, maybe all of it."""
    if not isinstance(thing, tuple) or not all([is_number(place) for place in thing]):
        return False
    if len(thing) > len(history) or not all([0 <= place < len(history) for place in thing]):
        return False
    if len(set(thing)) < len(thing):
        return False
    return all([is_free(place, waits, thing[:at]) for at, place in enumerate(thing)])


def is_part(lesser, waits):
    """Whether all pairs of the one WAITS are in the other ones."""
    return all([pair in waits for pair in lesser])


def are_unlike(history, world, one, other):
    """Whether two runs lead to unlike owners, charges or ways in the WORLD."""
    near = [history[place] for place in one]
    far = [history[place] for place in other]
    if part_owners(near, far, world):
        return True
    spots = list({spot: True for spot, _, _ in world})
    if any([charges_behind(near, spot) != charges_behind(far, spot) for spot in spots]):
        return True
    near_paths, far_paths = Paths(near), Paths(far)
    pairs = pairs_in(world, people_of(history))
    return any([near_paths.has_way(start, goal) != far_paths.has_way(start, goal) for start, goal in pairs])
