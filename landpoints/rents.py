"""Rents: what the POINTS of a WORLD owe by their size, and how great land can be if the size of some is told."""

from landpoints.areas import is_cut, is_in, is_world, let_spots, size_in
from landpoints.errors import CanNot, NoParcel
from landpoints.values import as_tuples, is_number, is_row


def is_rent(chart, thing):
    """Whether thing is a RENT of the MAP, of however many pairs."""
    if not isinstance(thing, tuple) or not all([is_row(pair, 2) for pair in thing]):
        return False
    return all([is_cut(chart[0], cut) and is_number(rate) for cut, rate in thing])


def is_sizes(chart, thing):
    """Whether thing are SIZES of the MAP, of at most two pairs."""
    if not is_rent(chart, thing) or len(thing) > 2:
        return False
    return all([number >= 0 for _, number in thing])


def rate_at(rent, spot):
    """What a POINT in the SPOT owes for each unit of its size."""
    return sum([rate for cut, rate in rent if is_in(spot, cut)])


def rent_in(rent, world):
    """The sum of the RENT in the WORLD."""
    points = as_tuples(world)
    spots = list({spot: True for spot, _, _ in points})
    rates = {spot: rate_at(rent, spot) for spot in spots}
    return sum([size * rates[spot] for spot, size, _ in points])


def plan_rent(parcels, rates):
    """The RENT of these numbers for the parcels of these names."""
    cuts = {name: cut for name, cut in as_tuples(parcels)}
    for name, _ in rates:
        if name not in cuts:
            raise NoParcel(name)
    return tuple([(cuts[name], number) for name, number in rates])


def never_less(chart, one, other, number):
    """Whether the sum of one, and number, is at least that of other in ALL WORLDS."""
    return less_paper(chart, one, other, number) is None


def less_paper(chart, one, other, number):
    """A WORLD of as few POINTS as can be, one at the most, in which it is less; None if there is none."""
    if number < 0:
        return ()
    for spot in let_spots(chart):
        gap = rate_at(other, spot) - rate_at(one, spot)
        if gap > 0:
            return ((spot, number // gap + 1, "a"),)
    return None


def is_less_paper(chart, one, other, number, thing):
    """Whether thing is a WORLD in which the sum of one, and number, is less than that of other."""
    return is_world(chart, thing) and rent_in(one, thing) + number < rent_in(other, thing)


def either_way(chart, one, other):
    """Whether the sum of one of both RENTS at least is not below 0 in ALL WORLDS."""
    return neither_paper(chart, one, other) is None


def neither_paper(chart, one, other):
    """A WORLD of at most two POINTS in which both sums are below 0; None if there is none."""
    rates = [(spot, rate_at(one, spot), rate_at(other, spot)) for spot in let_spots(chart)]
    for spot, rate, other_rate in rates:
        if rate < 0 and other_rate < 0:
            return ((spot, 1, "a"),)
    losses = [row for row in rates if row[1] < 0]
    for spot, rate, other_rate in losses:
        for far, far_rate, far_other in [row for row in rates if row[2] < 0]:
            if other_rate * far_rate < rate * far_other:
                # The one sum is below 0 if the sizes are below one ratio, the other if above another: this is between.
                return (spot, far_rate - far_other, "a"), (far, other_rate - rate, "a")
    return None


def is_neither_paper(chart, one, other, thing):
    """Whether thing is a WORLD in which both sums are below 0."""
    return is_world(chart, thing) and rent_in(one, thing) < 0 and rent_in(other, thing) < 0


def has_sizes(sizes, world):
    """Whether the WORLD has the SIZES."""
    return all([size_in(world, cut) == number for cut, number in sizes])


def can_have(chart, sizes):
    """Whether some WORLD has the SIZES."""
    return len(layouts(homes_in(chart, sizes), sizes)) > 0


def greatest_size(chart, sizes, cut):
    """The greatest size that can be in the CUT in a WORLD that has the SIZES; None if there is no greatest one."""
    world = great_world(chart, sizes, cut)
    return None if world is None else size_in(world, cut)


def least_size(chart, sizes, cut):
    """The least size that can be in the CUT in a WORLD that has the SIZES."""
    return size_in(small_world(chart, sizes, cut), cut)


def great_world(chart, sizes, cut):
    """A WORLD of at most two POINTS that has the SIZES, with the greatest size in the CUT; None if there is none."""
    worlds = worlds_with(chart, sizes, cut, True)
    beside = homes_in(chart, sizes).get((False, False), [])
    if any([is_in(spot, cut) for spot in beside]):
        return None
    return max(worlds, key=lambda world: size_in(world, cut))


def small_world(chart, sizes, cut):
    """A WORLD of at most two POINTS that has the SIZES, with the least size in the CUT."""
    return min(worlds_with(chart, sizes, cut, False), key=lambda world: size_in(world, cut))


def two_pairs(sizes):
    """The SIZES as two pairs; where one is missing, no land has the size 0."""
    pairs = list(sizes) + [((), 0), ((), 0)]
    return pairs[0], pairs[1]


def homes_in(chart, sizes):
    """A dict of the lists of the LET SPOTS that are, or are not, in the two CUTS of the SIZES."""
    (one, _), (other, _) = two_pairs(sizes)
    homes = {}
    for spot in let_spots(chart):
        homes.setdefault((is_in(spot, one), is_in(spot, other)), []).append(spot)
    return homes


def layouts(homes, sizes):
    """The list of tuples of pairs (home, size): all ways to lay the SIZES out over these homes that can be extreme.

    All else follows from the size that lies in both CUTS, and a sum of sizes is extreme where that is: at 0, or where
    it is all that one of the CUTS has.
    """
    (_, one), (_, other) = two_pairs(sizes)
    found = []
    for both in (0, one, other):
        layout = (((True, True), both), ((True, False), one - both), ((False, True), other - both))
        if all([size == 0 or size > 0 and home in homes for home, size in layout]):
            found.append(layout)
    return found


def worlds_with(chart, sizes, cut, inner):
    """The list of WORLDS by these layouts, as much of them in the CUT as can be if inner, else as little."""
    homes, worlds = homes_in(chart, sizes), []
    for layout in layouts(homes, sizes):
        filled = [(home, size) for home, size in layout if size > 0]
        worlds.append(tuple([(chosen_spot(homes[home], cut, inner), size, "a") for home, size in filled]))
    if not worlds:
        raise CanNot()
    return worlds


def chosen_spot(spots, cut, inner):
    """One of these SPOTS, in the CUT if inner, else not, if there is such a one."""
    fit = [spot for spot in spots if is_in(spot, cut) == inner]
    return fit[0] if fit else spots[0]
