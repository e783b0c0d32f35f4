"""Charges: in which row they stand at each SPOT behind a HISTORY."""

from landpoints.areas import is_in, let_spots
from landpoints.deeds import is_charge, without
from landpoints.values import as_set, as_tuples, is_name


def charges_in(history):
    """The set of the charges that the DEEDS name."""
    return as_set([name for deed in history if is_charge(deed) for name in deed[1:-1]])


def charges_behind(history, spot):
    """The charge row of the SPOT behind the HISTORY."""
    row = ()
    for deed in history:
        if is_charge(deed) and is_in(spot, deed[-1]):
            row = charged(deed, row)
    return row


def charge_table(chart, history):
    """The ascending tuple of the pairs (row, land) of all charge rows of LET SPOTS."""
    lands = {}
    for spot, row in rows_in(chart, history):
        lands.setdefault(row, []).append(spot)
    return tuple(sorted([(row, tuple(spots)) for row, spots in lands.items()]))


def charge_land(chart, history, name):
    """The LAND on which this charge stands."""
    return tuple([spot for spot, row in rows_in(chart, history) if name in row])


def ahead_land(chart, history, one, other):
    """The LAND on which both charges stand, one ahead of other."""
    return tuple([spot for spot, row in rows_in(chart, history) if is_ahead(row, one, other)])


def rank_land(chart, history, name, rank):
    """The LAND on which this charge stands, just so many ahead of it."""
    rows = rows_in(chart, history)
    return tuple([spot for spot, row in rows if 0 <= rank < len(row) and row[rank] == name])


def worst_rank(chart, history, name):
    """The greatest number of charges ahead of this one at a LET SPOT; None if it stands at none."""
    return max([row.index(name) for _, row in rows_in(chart, history) if name in row], default=None)


def charges_part(chart, history, second):
    """The LAND on which both HISTORIES leave unlike charge rows."""
    let = let_spots(chart)
    return tuple([spot for spot in let if charges_behind(history, spot) != charges_behind(second, spot)])


def charges_alike(chart, history, second):
    """Whether both HISTORIES leave the same charge rows at all LET SPOTS."""
    return not charges_part(chart, history, second)


def idle_charges(chart, history):
    """The set of the places of the charge deeds without each of which all charge rows are as they are."""
    places = [place for place, deed in enumerate(history) if is_charge(deed)]
    return tuple([place for place in places if charges_alike(chart, history, without(history, (place,)))])


def must_yield(chart, history, name):
    """The ascending tuple of the pairs (other, land) of the charges ahead of this one, with the LAND on which."""
    lands = {}
    for spot, row in rows_in(chart, history):
        ahead = row[:row.index(name)] if name in row else ()
        for other in ahead:
            lands.setdefault(other, []).append(spot)
    return tuple(sorted([(other, tuple(spots)) for other, spots in lands.items()]))


def one_row(chart, history):
    """The least tuple of all charges that stand, in whose order they stand at each LET SPOT; None if there is none."""
    left, ahead, found = standing_in(chart, history), pairs_ahead(chart, history), []
    while left:
        free = [name for name in left if not any([(other, name) in ahead for other in left])]
        if not free:
            return None
        found.append(free[0])
        left = [name for name in left if name != free[0]]
    return tuple(found)


def charge_round(chart, history):
    """A tuple of charges each ahead of the next one at some LET SPOT, the last ahead of the first; None if none."""
    left, ahead = standing_in(chart, history), pairs_ahead(chart, history)
    free = left
    while free:
        free = [name for name in left if not any([(other, name) in ahead for other in left])]
        left = [name for name in left if name not in free]
    if not left:
        return None
    # Each of those left has one of them ahead, so going on from one ahead to the next comes back.
    row, name = [], left[0]
    while name not in row:
        row.append(name)
        name = [other for other in left if (other, row[-1]) in ahead][0]
    return tuple(reversed(row[row.index(name):]))


def is_charge_round(chart, history, thing):
    """Whether thing is a tuple of charges each ahead of the next one, the last ahead of the first."""
    if not isinstance(thing, tuple) or len(thing) < 2 or not all([is_name(name) for name in thing]):
        return False
    if len(set(thing)) < len(thing):
        return False
    ahead = pairs_ahead(chart, history)
    return all([(thing[at - 1], name) in ahead for at, name in enumerate(thing)])


def charged(deed, row):
    """The row of charges behind the charge deed, in whose cut it is."""
    if deed[0] == "charge":
        return row if deed[1] in row else row + (deed[1],)
    if deed[0] == "lift":
        return tuple([name for name in row if name != deed[1]])
    if not is_ahead(row, deed[1], deed[2]):
        return row
    rest = tuple([name for name in row if name != deed[1]])
    behind = rest.index(deed[2]) + 1
    return rest[:behind] + (deed[1],) + rest[behind:]


def is_ahead(row, one, other):
    """Whether both charges stand in the row, one ahead of other."""
    return one in row and other in row and row.index(one) < row.index(other)


def rows_in(chart, history):
    """The list of the pairs (spot, row) of all LET SPOTS."""
    deeds = as_tuples(history)
    return [(spot, charges_behind(deeds, spot)) for spot in let_spots(chart)]


def standing_in(chart, history):
    """The ascending list of the charges that stand at some LET SPOT."""
    return list(as_set([name for _, row in rows_in(chart, history) for name in row]))


def pairs_ahead(chart, history):
    """A dict of the pairs of charges the first of which is ahead of the other at some LET SPOT."""
    rows = [row for _, row in rows_in(chart, history)]
    return {(row[at], other): True for row in rows for at in range(len(row)) for other in row[at + 1:]}
