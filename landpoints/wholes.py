"""Whole deeds: "whole"s count wholly or not at all, so whether one is let hangs on all land of a WORLD."""

from landpoints.areas import is_in, is_world, let_spots
from landpoints.deeds import alike_spots, enough_firsts, is_title, is_whole, samples, turned, turns_at
from landpoints.errors import NoDeed
from landpoints.values import all_parts, as_set, as_tuples


def wholes_of(history):
    """The set of the places of the "whole"s."""
    return tuple([place for place, deed in enumerate(history) if is_whole(deed)])


def played(history, guess):
    """The HISTORY without "whole" that the GUESS plays."""
    check_wholes(history, guess)
    kept = [(place, deed) for place, deed in enumerate(as_tuples(history)) if not is_whole(deed) or place in guess]
    return tuple([("give",) + deed[1:] if is_whole(deed) else deed for _, deed in kept])


def let_wholes(world, history):
    """The GUESS that comes in the WORLD."""
    return play(world, history)[0]


def owners_in(world, history):
    """The tuple of the owners of the POINTS of the WORLD behind the HISTORY."""
    return play(world, history)[1]


def ground(chart, history, guess, first):
    """The LAND at which each "whole" of the GUESS is right for a POINT that is first's at first."""
    check_wholes(history, guess)
    let = let_spots(chart)
    return tuple([spot for spot in let if trial(turns_at(history, spot), guess, first) is not None])


def can_come(chart, history, guess):
    """Whether the GUESS comes in some WORLD."""
    return world_for(chart, history, guess) is not None


def guesses(chart, history):
    """The ascending list of the GUESSES that come in some WORLD."""
    return [guess for guess in all_parts(wholes_of(history)) if can_come(chart, history, guess)]


def fewest_points(chart, history, guess):
    """How few POINTS a WORLD has in which the GUESS comes; None if there is none."""
    return many_points(world_for(chart, history, guess))


def world_for(chart, history, guess):
    """A WORLD of as few POINTS as can be in which the GUESS comes; None if there is none."""
    check_wholes(history, guess)
    options = {}
    for spot, first, turns, _ in cases_in(chart, history, (), ()):
        told = trial(turns, guess, first)
        if told is not None:
            options.setdefault(told[1], (spot, 1, first))
    return least_world(options, tuple([place for place in wholes_of(history) if place not in guess]))


def is_world_for(chart, history, guess, thing):
    """Whether thing is a WORLD in which the GUESS comes."""
    check_wholes(history, guess)
    return is_world(chart, thing) and let_wholes(thing, history) == as_tuples(guess)


def sure_wholes(chart, history):
    """The set of the places of the "whole"s that are let in ALL WORLDS."""
    come = guesses(chart, history)
    return tuple([place for place in wholes_of(history) if all([place in guess for guess in come])])


def against_land(chart, history, place):
    """The LAND at which in some WORLD a POINT is against this "whole"."""
    check_wholes(history, (place,))
    told = trials_by_spot(chart, history, ())
    spots = [spot for spot in told if any([place in against for _, against in told[spot]])]
    return alike_spots(chart, history, spots)


def idle_checks(chart, history):
    """The set of the places of the "whole"s each of which could be a "give", the owners being the same."""
    deeds, found = as_tuples(history), []
    for place in wholes_of(deeds):
        unchecked = deeds[:place] + (("give",) + deeds[place][1:],) + deeds[place + 1:]
        if same_owners(chart, deeds, unchecked):
            found.append(place)
    return tuple(found)


def sure_behind(chart, history, who):
    """The LAND that is who's behind the HISTORY in ALL WORLDS."""
    told = trials_by_spot(chart, history, (who,))
    return alike_spots(chart, history, [spot for spot in told if all([owner == who for owner, _ in told[spot]])])


def maybe_behind(chart, history, who):
    """The LAND at which in some WORLD a POINT is who's behind the HISTORY."""
    told = trials_by_spot(chart, history, (who,))
    return alike_spots(chart, history, [spot for spot in told if any([owner == who for owner, _ in told[spot]])])


def same_owners(chart, history, second):
    """Whether both HISTORIES leave the same owners FOR ALL WORLDS."""
    return split_world(chart, history, second) is None


def fewest_split(chart, history, second):
    """How few POINTS a WORLD has in which some POINT has unlike owners behind both; None if there is none."""
    return many_points(split_world(chart, history, second))


def split_world(chart, history, second):
    """A WORLD of as few POINTS as can be in which some POINT has unlike owners behind both; None if there is none."""
    return smallest([least_world(options, goal) for options, goal in split_options(chart, history, second)])


def is_split_world(chart, history, second, thing):
    """Whether thing is a WORLD in which some POINT has unlike owners behind both HISTORIES."""
    return is_world(chart, thing) and owners_in(thing, history) != owners_in(thing, second)


def refused_world(chart, history, place):
    """A WORLD of as few POINTS as can be in which this "whole" is refused; None if there is none."""
    # What follows does not tell on it.
    row = as_tuples(history)[:place + 1]
    worlds = [world_for(chart, row, guess) for guess in all_parts(wholes_of(row)) if place not in guess]
    return smallest(worlds)


def lost_world(chart, history, person, cut):
    """A WORLD of as few POINTS as can be, one in the CUT not this person's behind the HISTORY; None if none is."""
    cases, worlds = cases_in(chart, history, (("vest", person, cut),), ()), []
    wholes = wholes_of(history)
    for guess in all_parts(wholes):
        options = {}
        for spot, first, turns, _ in cases:
            told = trial(turns, guess, first)
            if told is not None:
                lost = (-1,) if told[0] != person and is_in(spot, cut) else ()
                options.setdefault(lost + told[1], (spot, 1, first))
        goal = (-1,) + tuple([place for place in wholes if place not in guess])
        worlds.append(least_world(options, goal))
    return smallest(worlds)


def check_wholes(history, places):
    """Raises NoDeed for the first of these numbers at which the HISTORY has no "whole"."""
    wholes = wholes_of(history)
    for place in places:
        if place not in wholes:
            raise NoDeed(place)


def play(world, history):
    """The pair of the GUESS that comes in the WORLD, and of the tuple of the owners behind the HISTORY."""
    points = as_tuples(world)
    spots = list({spot: True for spot, _, _ in points})
    owners, let = [first for _, _, first in points], []
    for place, deed in enumerate(history):
        if not is_title(deed):
            continue
        inside = {spot: is_in(spot, deed[-1]) for spot in spots}
        inner = [at for at, point in enumerate(points) if inside[point[0]]]
        if is_whole(deed):
            if any([owners[at] != deed[1] for at in inner]):
                continue
            let.append(place)
        for at in inner:
            owners[at] = turned(deed, owners[at])
    return tuple(let), tuple(owners)


def trial(turns, guess, first):
    """The end owner of a POINT if the GUESS is played, and the places of the "whole"s which it is against.

    None if one of the GUESS is not right there.
    """
    owner, against = first, []
    for place, deed in enumerate(turns):
        if deed is None or not is_whole(deed):
            owner = turned(deed, owner)
        elif place in guess:
            if owner != deed[1]:
                return None
            owner = deed[2]
        elif owner != deed[1]:
            against.append(place)
    return owner, tuple(against)


def cases_in(chart, history, second, named):
    """The list of all that is to be tried: a SPOT, a first owner, and the turns there by both HISTORIES."""
    deeds = as_tuples(history) + as_tuples(second)
    firsts, cases = enough_firsts(deeds, named), []
    for land in samples(chart, deeds):
        near, far = turns_at(history, land[0]), turns_at(second, land[0])
        cases.extend([(land[0], first, near, far) for first in firsts])
    return cases


def trials_by_spot(chart, history, named):
    """A dict of the lists of what comes at a SPOT by the GUESSES that come; one SPOT for all that are alike."""
    come, found = guesses(chart, history), {}
    for spot, first, turns, _ in cases_in(chart, history, (), named):
        row = [trial(turns, guess, first) for guess in come]
        found.setdefault(spot, []).extend([told for told in row if told is not None])
    return found


def split_options(chart, history, second):
    """The list of what least_world is to be asked: of each two GUESSES of both HISTORIES once."""
    cases, asked = cases_in(chart, history, second, ()), []
    ours, theirs = wholes_of(history), wholes_of(second)
    nears, fars = all_parts(ours), all_parts(theirs)
    far_rows = [[trial(turns, far, first) for _, first, _, turns in cases] for far in fars]
    for near in nears:
        row = [trial(turns, near, first) for _, first, turns, _ in cases]
        for far, far_row in zip(fars, far_rows):
            goal = [(0, place) for place in ours if place not in near]
            goal = goal + [(1, place) for place in theirs if place not in far] + [(2, 0)]
            asked.append((split_marks(cases, row, far_row), as_set(goal)))
    return asked


def split_marks(cases, row, far_row):
    """A dict of POINTS by what they show of two GUESSES: the "whole"s they are against, and if their owners part."""
    options = {}
    for case, near, far in zip(cases, row, far_row):
        if near is not None and far is not None:
            marks = [(0, place) for place in near[1]] + [(1, place) for place in far[1]]
            if near[0] != far[0]:
                marks.append((2, 0))
            options.setdefault(tuple(marks), (case[0], 1, case[1]))
    return options


def least_world(options, goal):
    """As few of these POINTS as can be that show, all together, the goal by their marks; None if none do."""
    worlds, edge = {(): ()}, [()]
    while edge:
        later = []
        for marks in edge:
            if marks == goal:
                return worlds[marks]
            for option in options:
                grown = as_set(marks + option)
                if grown not in worlds:
                    worlds[grown] = worlds[marks] + (options[option],)
                    later.append(grown)
        edge = later
    return None


def smallest(worlds):
    """One of these with the fewest POINTS, None being no WORLD; None if there is none."""
    return min([world for world in worlds if world is not None], key=len, default=None)


def many_points(world):
    """How many POINTS the WORLD has; None for None."""
    return None if world is None else len(world)
