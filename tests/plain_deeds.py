"""A plain look at DEEDS: HISTORIES are played DEED by DEED on WORLDS, as the table of the document tells.

Nothing here calls the package.
"""

from itertools import product

from tests import plain

STRANGERS = ("xan", "yul", "zed")


class State:
    """What is so of a WORLD at some time; owners and rows by places of POINTS, ways as a set of pairs."""

    def __init__(self, owners, rows, ways, let):
        self.owners, self.rows, self.ways, self.let = owners, rows, ways, let

    def same(self):
        return self.owners, self.rows, self.ways


def owner_after(deed, owner):
    word = deed[0]
    if word in ("give", "whole"):
        _, who, to, _ = deed
        return to if owner == who else owner
    if word == "vest":
        _, to, _ = deed
        return to
    _, one, other, _ = deed
    return {one: other, other: one}.get(owner, owner)


def row_after(deed, row):
    row = list(row)
    if deed[0] == "charge" and deed[1] not in row:
        row.append(deed[1])
    if deed[0] == "lift" and deed[1] in row:
        row.remove(deed[1])
    if deed[0] == "yield" and deed[1] in row and deed[2] in row[row.index(deed[1]):]:
        row.remove(deed[1])
        row.insert(row.index(deed[2]) + 1, deed[1])
    return tuple(row)


def after(state, deed, world, place):
    """The state behind the DEED at this place."""
    inside = [plain.is_in(point[0], deed[-1]) for point in world]
    owners, rows, ways, let = state.owners, state.rows, state.ways, state.let
    if deed[0] in ("give", "vest", "swap", "whole"):
        fits = all(owner == deed[1] for owner, there in zip(owners, inside) if there)
        if deed[0] != "whole" or fits:
            owners = tuple(owner_after(deed, owner) if there else owner for owner, there in zip(owners, inside))
        if deed[0] == "whole" and fits:
            let = let + (place,)
    elif deed[0] in ("charge", "lift", "yield"):
        rows = tuple(row_after(deed, row) if there else row for row, there in zip(rows, inside))
    else:
        touched = {(one, other) for one in range(len(world)) for other in range(len(world))
                   if plain.is_in(world[one][0], deed[1]) and plain.is_in(world[other][0], deed[2])}
        ways = ways | touched if deed[0] == "way" else ways - touched
    ways = {(one, other) for one, other in ways if owners[one] != owners[other]}
    return State(owners, rows, ways, let)


def play(history, world):
    """The list of the states: ahead of all DEEDS, behind the first one, and so on."""
    states = [State(tuple(point[2] for point in world), ((),) * len(world), set(), ())]
    for place, deed in enumerate(history):
        states.append(after(states[-1], deed, world, place))
    return states


def end(history, world):
    return play(history, world)[-1]


def owner(history, spot, first):
    return end(history, ((spot, 1, first),)).owners[0]


def owners(history, spot, first):
    return tuple(state.owners[0] for state in play(history, ((spot, 1, first),)))


def people(*histories):
    found = set()
    for history in histories:
        for deed in history:
            if deed[0] in ("give", "swap", "whole"):
                found |= {deed[1], deed[2]}
            if deed[0] == "vest":
                found.add(deed[1])
    return tuple(sorted(found - {""}))


def firsts(*histories, named=()):
    """The people of the DEEDS, those who are named, and three strangers."""
    return tuple(sorted(set(people(*histories)) | set(named) | set(STRANGERS)))


def worlds(chart, points, owners_at_first):
    """All WORLDS of so many POINTS with these first owners, each POINT of another size."""
    choices = [(spot, first) for spot in plain.let(chart) for first in owners_at_first]
    for chosen in product(choices, repeat=points):
        yield tuple((spot, at + 1, first) for at, (spot, first) in enumerate(chosen))


def left(history, places):
    return tuple(deed for place, deed in enumerate(history) if place not in places)


def spots_where(chart, tells):
    return tuple(spot for spot in plain.let(chart) if tells(spot))


def parted(chart, one, other):
    """The LAND at which some POINT has unlike owners behind both."""
    told = firsts(one, other)
    return spots_where(chart, lambda spot: any(owner(one, spot, first) != owner(other, spot, first) for first in told))


def words(history):
    return {deed[0] for deed in history}
