"""Areas, surveys and cuts: what of MAPS and CUTS is told by their LANDS."""

from landpoints.errors import Known, NoArea, Unfit
from landpoints.values import all_parts, as_set, as_tuples, is_ascending, is_name, is_name_set, is_number, is_row


def is_spot(areas, thing):
    """Whether thing is a SPOT of the AREAS."""
    if not isinstance(thing, tuple):
        return False
    return all([name in areas for name in thing]) and is_ascending(thing)


def is_condition(areas, thing):
    """Whether thing is a CONDITION of the AREAS."""
    return is_condition_over(lookup(areas), thing)


def is_cut(areas, thing):
    """Whether thing is a CUT of the AREAS, of however many CONDITIONS."""
    if not isinstance(thing, tuple):
        return False
    known = lookup(areas)
    return all([is_condition_over(known, condition) for condition in thing]) and is_ascending(thing)


def is_map(thing):
    """Whether thing is a MAP, of however many AREAS and CONDITIONS."""
    if not is_row(thing, 2):
        return False
    areas, bare = thing
    return is_name_set(areas) and is_cut(areas, bare)


def is_land(chart, thing):
    """Whether thing is a LAND of the MAP."""
    if not isinstance(thing, tuple):
        return False
    return all([is_let_spot(chart, spot) for spot in thing]) and is_ascending(thing)


def is_world(chart, thing):
    """Whether thing is a WORLD of the MAP, of however many POINTS."""
    return isinstance(thing, tuple) and all([is_point(chart, point) for point in thing])


def spots_of(areas):
    """The set of all SPOTS of the AREAS."""
    return all_parts(areas)


def keeps(spot, condition):
    """Whether the SPOT keeps the CONDITION."""
    return all([(name in spot) == inside for name, inside in condition])


def is_in(spot, cut):
    """Whether the SPOT is in the CUT."""
    return any([keeps(spot, condition) for condition in cut])


def let_spots(chart):
    """The LAND of all LET SPOTS of the MAP."""
    areas, bare = chart
    return tuple([spot for spot in spots_of(areas) if not is_in(spot, bare)])


def land_of(chart, cut):
    """The LAND of the LET SPOTS in the CUT."""
    return tuple([spot for spot in let_spots(chart) if is_in(spot, cut)])


def are_alike(chart, one, other):
    """Whether both CUTS have one LAND."""
    return land_of(chart, one) == land_of(chart, other)


def lies_within(chart, one, other):
    """Whether the LAND of one is part of the LAND of other."""
    return all([is_in(spot, other) for spot in land_of(chart, one)])


def both_cuts(one, other):
    """The CUT of what is in both CUTS, out of their CONDITIONS."""
    found = [joined_condition(near, far) for near in one for far in other]
    return as_set([condition for condition in found if condition is not None])


def size_in(world, cut):
    """The size of the POINTS of the WORLD in the CUT."""
    return sum([size for spot, size, _ in world if is_in(spot, cut)])


def plain_cut(chart, land):
    """The one CUT by which all CUTS with this LAND can be told."""
    return tuple(plain_parts(chart[0], let_spots(chart), as_tuples(land), ()))


def with_bare(chart, condition):
    """The MAP with this CONDITION in its survey."""
    areas, bare = as_tuples(chart)
    return areas, as_set(bare + (as_tuples(condition),))


def without_bare(chart, condition):
    """The MAP without this CONDITION in its survey."""
    areas, bare = as_tuples(chart)
    gone = as_tuples(condition)
    if gone not in bare:
        raise Unfit()
    return areas, tuple([kept for kept in bare if kept != gone])


def with_within(chart, name, outer):
    """The MAP with the survey that the area name lies within the area outer."""
    check_two(chart, name, outer)
    return with_bare(chart, as_set([(name, True), (outer, False)]))


def with_apart(chart, name, outer):
    """The MAP with the survey that both areas are apart."""
    check_two(chart, name, outer)
    return with_bare(chart, as_set([(name, True), (outer, True)]))


def with_all(chart, names):
    """The MAP with the survey that all land lies in these areas."""
    check_areas(chart, names)
    return with_bare(chart, as_set([(name, False) for name in names]))


def is_surveyed(chart, condition):
    """Whether no LET SPOT keeps the CONDITION."""
    return land_of(chart, (condition,)) == ()


def needless(chart):
    """The set of the CONDITIONS of the survey that the others of it tell already."""
    bare = as_tuples(chart[1])
    return tuple([condition for condition in bare if is_surveyed(without_bare(chart, condition), condition)])


def with_area(chart, name):
    """The MAP with this AREA, too."""
    areas, bare = as_tuples(chart)
    if name in areas:
        raise Known(name)
    return as_set(areas + (name,)), bare


def without_area(chart, name):
    """The MAP without this AREA, which the survey does not name."""
    check_areas(chart, (name,))
    areas, bare = as_tuples(chart)
    if any([name == named for condition in bare for named, _ in condition]):
        raise Unfit()
    return tuple([kept for kept in areas if kept != name]), bare


def renamed(chart, pairs):
    """The MAP with the second NAME of each pair in the place of its first one."""
    areas, bare = chart
    names = {old: new for old, new in pairs}
    changed = as_set([names.get(name, name) for name in areas])
    if len(changed) < len(areas):
        raise Unfit()
    return changed, renamed_cut(bare, pairs)


def renamed_cut(cut, pairs):
    """The CUT with the second NAME of each pair in the place of its first one."""
    names = {old: new for old, new in pairs}
    return as_set([as_set([(names.get(name, name), inside) for name, inside in condition]) for condition in cut])


def felt_areas(chart, land):
    """The set of the AREAS that part two LET SPOTS alike but in them, one in the LAND, one not."""
    let, inner = let_spots(chart), as_tuples(land)
    return tuple([name for name in chart[0] if is_felt(let, inner, name)])


def are_enough(chart, land, names):
    """Whether it is told by these AREAS of a LET SPOT whether it is in the LAND."""
    check_areas(chart, names)
    inner, told = as_tuples(land), {}
    for spot in let_spots(chart):
        seen = tuple([name for name in spot if name in names])
        if told.setdefault(seen, spot in inner) != (spot in inner):
            return False
    return True


def fewest_areas(chart, land):
    """As few AREAS as can be that are enough, the least such set."""
    return min([(len(names), names) for names in spots_of(chart[0]) if are_enough(chart, land, names)])[1]


def lookup(areas):
    """A dict of the AREAS: a thing may have so many CONDITIONS that going through a tuple each time is slow."""
    return {name: True for name in areas}


def is_condition_over(known, thing):
    """Whether thing is a CONDITION of the AREAS that are the keys of known."""
    if not isinstance(thing, tuple) or not all([is_side(known, pair) for pair in thing]):
        return False
    return is_ascending([pair[0] for pair in thing])


def is_side(known, thing):
    """Whether thing is a pair of a known area and True or False."""
    if not is_row(thing, 2):
        return False
    name, inside = thing
    return isinstance(name, str) and name in known and isinstance(inside, bool)


def is_let_spot(chart, thing):
    """Whether thing is a LET SPOT of the MAP."""
    areas, bare = chart
    return is_spot(areas, thing) and not is_in(thing, bare)


def is_point(chart, thing):
    """Whether thing is a POINT of the MAP, of whatever size."""
    if not is_row(thing, 3):
        return False
    spot, size, first = thing
    return is_let_spot(chart, spot) and is_number(size) and size >= 1 and is_name(first)


def check_areas(chart, names):
    """Raises NoArea for the first of the strings that is no AREA of the MAP."""
    for name in names:
        if name not in chart[0]:
            raise NoArea(name)


def check_two(chart, name, outer):
    """Raises NoArea if one of both is no AREA, Unfit if they are the same."""
    check_areas(chart, (name, outer))
    if name == outer:
        raise Unfit()


def joined_condition(one, other):
    """The CONDITION with the pairs of both; None if an area is inside and outside in them."""
    sides = {name: inside for name, inside in one}
    for name, inside in other:
        if sides.get(name, inside) != inside:
            return None
        sides[name] = inside
    return tuple(sorted(sides.items()))


def plain_parts(areas, let, land, condition):
    """The ascending list of the CONDITIONS of the plain CUT that come of this one, which names the first AREAS."""
    kept = [spot for spot in let if keeps(spot, condition)]
    inner = [spot for spot in kept if spot in land]
    if not inner:
        return []
    if len(inner) == len(kept):
        return [condition]
    name = areas[len(condition)]
    outside = plain_parts(areas, let, land, condition + ((name, False),))
    return outside + plain_parts(areas, let, land, condition + ((name, True),))


def is_felt(let, land, name):
    """Whether of two of the LET SPOTS alike but in this area one is in the LAND, one not."""
    for spot in let:
        beside = as_set(spot + (name,))
        if beside in let and (spot in land) != (beside in land):
            return True
    return False
