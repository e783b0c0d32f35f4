"""A plain look at land: the sentences of the document told straight from the definitions.

Nothing here calls the package, and everything is told by trying all SPOTS, sets and LOTS.
"""

from itertools import combinations, permutations, product


def subsets(members):
    """All sets of some of the members, ascending."""
    return tuple(sorted(row for many in range(len(members) + 1) for row in combinations(members, many)))


def all_conditions(areas):
    """All CONDITIONS of the AREAS, ascending."""
    found = []
    for names in subsets(areas):
        for sides in product((False, True), repeat=len(names)):
            found.append(tuple(zip(names, sides)))
    return tuple(sorted(found))


def keeps(spot, condition):
    for area, inside in condition:
        if inside and area not in spot:
            return False
        if not inside and area in spot:
            return False
    return True


def is_in(spot, cut):
    for condition in cut:
        if keeps(spot, condition):
            return True
    return False


def let(chart):
    return tuple(spot for spot in subsets(chart[0]) if not is_in(spot, chart[1]))


def land(chart, cut):
    return tuple(sorted(set(let(chart)) & {spot for spot in subsets(chart[0]) if is_in(spot, cut)}))


def alike_but_in(one, other, area):
    return set(one) ^ set(other) <= {area} and one != other


def felt(chart, inner):
    found = set()
    for one, other in permutations(let(chart), 2):
        for area in chart[0]:
            if alike_but_in(one, other, area) and one in inner and other not in inner:
                found.add(area)
    return tuple(sorted(found))


def enough(chart, inner, names):
    for one, other in combinations(let(chart), 2):
        if set(one) & set(names) == set(other) & set(names) and (one in inner) != (other in inner):
            return False
    return True


def fewest_areas(chart, inner):
    fit = [names for names in subsets(chart[0]) if enough(chart, inner, names)]
    fewest = min(len(names) for names in fit)
    return min(names for names in fit if len(names) == fewest)


def plain_cut(chart, inner):
    """The CONDITIONS that name the first areas, all one LAND, while all that come ahead are parted."""
    def looks(condition):
        kept = [spot for spot in let(chart) if keeps(spot, condition)]
        return {spot in inner for spot in kept}

    found = []
    for many in range(len(chart[0]) + 1):
        for sides in product((False, True), repeat=many):
            condition = tuple(zip(chart[0], sides))
            if looks(condition) == {True} and all(looks(condition[:ahead]) == {True, False} for ahead in range(many)):
                found.append(condition)
    return tuple(sorted(found))


def needless(chart):
    areas, bare = chart
    found = []
    for condition in bare:
        rest = tuple(other for other in bare if other != condition)
        if not any(keeps(spot, condition) for spot in let((areas, rest))):
            found.append(condition)
    return tuple(found)


def both_cuts(areas, one, other):
    """Of all CONDITIONS those whose pairs are those of one of each."""
    made = {frozenset(near) | frozenset(far) for near in one for far in other}
    return tuple(condition for condition in all_conditions(areas) if frozenset(condition) in made)


def homes(parcels, spot):
    return [name for name, cut in parcels if is_in(spot, cut)]


def is_plan(chart, parcels):
    return all(len(homes(parcels, spot)) == 1 for spot in let(chart))


def clashing(chart, parcels):
    found = set()
    for (one, near), (other, far) in combinations(parcels, 2):
        if set(land(chart, near)) & set(land(chart, far)):
            found.add((min(one, other), max(one, other)))
    return tuple(sorted(found))


def surveys_wanted(chart, parcels):
    areas, bare = chart
    return tuple(condition for condition in bare
                 if not is_plan((areas, tuple(other for other in bare if other != condition)), parcels))


def made_of(lay, cut):
    """By trying all sets of parcels with land."""
    goal = {spot for _, lot in lay for spot in lot if is_in(spot, cut)}
    lands = dict(lay)
    fit = []
    for names in subsets(tuple(name for name, lot in lay if lot)):
        if {spot for name in names for spot in lands[name]} == goal:
            fit.append(names)
    return fit[0] if fit else None


def all_lots(spots):
    """All LOTS of the SPOTS."""
    found = [[]]
    for spot in spots:
        longer = []
        for lots in found:
            longer.append(lots + [[spot]])
            for at in range(len(lots)):
                longer.append(lots[:at] + [lots[at] + [spot]] + lots[at + 1:])
        found = longer
    return sorted(tuple(sorted(tuple(sorted(lot)) for lot in lots)) for lots in found)


def is_finer(near, far):
    return all(any(set(one) <= set(other) for other in far) for one in near)


def is_made_up(lots, spots):
    """Whether the SPOTS are those of some whole ones of the LOTS."""
    return all(set(lot) <= set(spots) or not set(lot) & set(spots) for lot in lots)


def steps_from(lots):
    """The set of all LOTS that are made of these by one step."""
    found = set()
    for one, other in combinations(lots, 2):
        rest = [lot for lot in lots if lot not in (one, other)]
        found.add(tuple(sorted(rest + [tuple(sorted(one + other))])))
    for lot in lots:
        rest = [other for other in lots if other != lot]
        for part in subsets(lot):
            if part and len(part) < len(lot):
                other = tuple(spot for spot in lot if spot not in part)
                found.add(tuple(sorted(rest + [part, other])))
    return found


def distances(lots):
    """How few steps lead from these LOTS to each of all, told by walking."""
    told, edge = {lots: 0}, [lots]
    while edge:
        nearer, edge = edge, []
        for place in nearer:
            for other in steps_from(place):
                if other not in told:
                    told[other] = told[place] + 1
                    edge.append(other)
    return told


def same(one, other):
    """Whether both are the same value, of the same kinds at each depth (True is no 1, a list no tuple)."""
    if type(one) is not type(other):
        return False
    if isinstance(one, (list, tuple)):
        return len(one) == len(other) and all(same(near, far) for near, far in zip(one, other))
    return one == other


def is_among(thing, values):
    return any(same(thing, value) for value in values)
