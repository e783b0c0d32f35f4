"""Plans of parcels: which PARCELS make up the land, and LOTS that are parted and joined."""

from landpoints.areas import is_cut, is_in, is_land, is_world, land_of, let_spots, without_bare
from landpoints.errors import Known, NoParcel, Unfit
from landpoints.values import as_set, as_tuples, is_ascending, is_named_row


def is_parcels(chart, thing):
    """Whether thing are PARCELS of the MAP, of however many."""
    return is_named_row(thing) and all([is_cut(chart[0], cut) for _, cut in thing])


def left_out(chart, parcels):
    """The LAND that lies in none of the PARCELS."""
    return tuple([spot for spot in let_spots(chart) if not names_over(parcels, spot)])


def doubled(chart, parcels):
    """The LAND that lies in two of the PARCELS or more."""
    return tuple([spot for spot in let_spots(chart) if len(names_over(parcels, spot)) > 1])


def clashing(chart, parcels):
    """The set of the pairs of names of PARCELS that have a LET SPOT in common."""
    found = []
    for spot in let_spots(chart):
        names = names_over(parcels, spot)
        found.extend([(one, other) for one in names for other in names if one < other])
    return as_set(found)


def is_plan(chart, parcels):
    """Whether FOR ALL WORLDS each POINT lies in just one of the PARCELS."""
    return plan_paper(chart, parcels) is None


def plan_paper(chart, parcels):
    """A WORLD of one POINT that does not lie in just one of the PARCELS; None if they are a plan."""
    for spot in let_spots(chart):
        if is_wrong(parcels, spot):
            return ((spot, 1, "a"),)
    return None


def is_plan_paper(chart, parcels, thing):
    """Whether thing is a WORLD with a POINT that does not lie in just one of the PARCELS."""
    return is_world(chart, thing) and any([is_wrong(parcels, point[0]) for point in thing])


def lay_of(chart, parcels):
    """The LAY with the LANDS of the CUTS of the PARCELS."""
    check_plan(chart, parcels)
    return tuple([(name, land_of(chart, cut)) for name, cut in parcels])


def surveys_wanted(chart, parcels):
    """The set of the CONDITIONS of the survey without which, taken out alone, the PARCELS are no plan."""
    check_plan(chart, parcels)
    bare = as_tuples(chart[1])
    return tuple([condition for condition in bare if not is_plan(without_bare(chart, condition), parcels)])


def is_lay(chart, thing):
    """Whether thing is a LAY of the MAP."""
    if not is_named_row(thing) or not all([is_land(chart, land) for _, land in thing]):
        return False
    return tuple(sorted([spot for _, land in thing for spot in land])) == let_spots(chart)


def parcel_at(lay, spot):
    """The name of the parcel whose LAND has the SPOT; None if there is none."""
    wanted = as_tuples(spot)
    for name, land in as_tuples(lay):
        if wanted in land:
            return name
    return None


def split_off(lay, name, new, cut):
    """The LAY in which what of this parcel is in the CUT is the parcel new."""
    lands = lands_by_name(lay, (name,))
    if new in lands:
        raise Known(new)
    land = lands[name]
    lands[name] = tuple([spot for spot in land if not is_in(spot, cut)])
    lands[new] = tuple([spot for spot in land if is_in(spot, cut)])
    return tuple(sorted(lands.items()))


def merged(lay, one, other):
    """The LAY in which all that is other's is one's, and other is gone."""
    lands = lands_by_name(lay, (one, other))
    if one == other:
        raise Unfit()
    lands[one] = as_set(lands[one] + lands[other])
    del lands[other]
    return tuple(sorted(lands.items()))


def made_of(lay, cut):
    """The set of the names of the parcels whose LANDS are what is in the CUT; None if there is none."""
    found = []
    for name, land in lay:
        inner = [spot for spot in land if is_in(spot, cut)]
        if inner and len(inner) < len(land):
            return None
        if inner:
            found.append(name)
    return tuple(found)


def lots_of(lay):
    """The LOTS that are the LANDS of the LAY but ()."""
    return as_set([land for _, land in as_tuples(lay) if land])


def least_lots(chart, cuts):
    """As few LOTS as can be such that the LAND of each of the CUTS is made up of whole ones."""
    groups = {}
    for spot in let_spots(chart):
        groups.setdefault(tuple([is_in(spot, cut) for cut in cuts]), []).append(spot)
    return as_set([tuple(land) for land in groups.values()])


def are_finer(near, far):
    """Whether the LOTS near are finer than far, or the same."""
    return common_lots(near, far) == as_tuples(near)


def common_lots(near, far):
    """As few LOTS as can be that are finer than both, or the same."""
    found = [shared_land(one, other) for one in as_tuples(near) for other in as_tuples(far)]
    return as_set([land for land in found if land])


def joined_lots(near, far):
    """As many LOTS as can be than which both are finer, or the same."""
    found = as_tuples(near)
    for wanted in as_tuples(far):
        touched = [land for land in found if shared_land(land, wanted)]
        found = tuple([land for land in found if land not in touched])
        found = found + (as_set([spot for land in touched for spot in land]),)
    return as_set(found)


def fewest_steps(near, far):
    """How few steps lead from near to far."""
    return len(near) + len(far) - 2 * len(joined_lots(near, far))


def step_way(near, far):
    """A tuple of LOTS from near to far, each made of that ahead by one step, as few as can be."""
    top = joined_lots(near, far)
    # The ways up to the joined LOTS are as short as can be, and a way down is a way up read backwards.
    down = list(reversed(joining_way(as_tuples(far), top)))
    return tuple(joining_way(as_tuples(near), top) + down[1:])


def is_step_way(near, far, thing):
    """Whether thing is a tuple of LOTS from near to far, each made of that ahead by one step."""
    first, last = as_tuples(near), as_tuples(far)
    if not isinstance(thing, tuple) or not thing or thing[0] != first or thing[-1] != last:
        return False
    let = tuple(sorted([spot for land in first for spot in land]))
    if not all([is_lots(let, lots) for lots in thing]):
        return False
    return all([is_step(thing[at], thing[at + 1]) for at in range(len(thing) - 1)])


def names_over(parcels, spot):
    """The list of the names of the PARCELS in whose CUTS the SPOT is."""
    return [name for name, cut in parcels if is_in(spot, cut)]


def is_wrong(parcels, spot):
    """Whether the SPOT is not in just one of the PARCELS."""
    return len(names_over(parcels, spot)) != 1


def check_plan(chart, parcels):
    """Raises Unfit if the PARCELS are no plan."""
    if not is_plan(chart, parcels):
        raise Unfit()


def lands_by_name(lay, names):
    """A new dict of the LANDS of the LAY by their names; raises NoParcel for the first of names that is none."""
    lands = {name: land for name, land in as_tuples(lay)}
    for name in names:
        if name not in lands:
            raise NoParcel(name)
    return lands


def shared_land(one, other):
    """The LAND of the SPOTS that are in both LANDS."""
    return tuple([spot for spot in one if spot in other])


def joining_way(lots, top):
    """The list of LOTS from these to top, which they are finer than, each with two of those ahead joined."""
    way = [lots]
    for goal in top:
        parts = [land for land in lots if shared_land(land, goal)]
        grown = parts[0]
        for part in parts[1:]:
            others = [land for land in way[-1] if land not in (grown, part)]
            grown = as_set(grown + part)
            way.append(as_set(others + [grown]))
    return way


def is_lots(let, thing):
    """Whether thing are LOTS of the LET SPOTS."""
    if not isinstance(thing, tuple) or not all([is_lot(let, land) for land in thing]):
        return False
    return is_ascending(thing) and tuple(sorted([spot for land in thing for spot in land])) == let


def is_lot(let, thing):
    """Whether thing is a LAND out of the LET SPOTS, and not ()."""
    if not isinstance(thing, tuple) or not thing:
        return False
    # A SPOT is a tuple of strings alone, so what equals one is one.
    return all([spot in let for spot in thing]) and is_ascending(thing)


def is_step(one, other):
    """Whether other LOTS of the same LET SPOTS are made of one by parting one of them, or joining two."""
    gone = [land for land in one if land not in other]
    come = [land for land in other if land not in one]
    return (len(gone), len(come)) in ((1, 2), (2, 1))
