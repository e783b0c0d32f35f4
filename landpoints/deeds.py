"""DEEDS: what each does to the owner of a POINT, and what several of them do, one behind another."""

from landpoints.areas import is_in, let_spots
from landpoints.errors import NoDeed
from landpoints.values import as_set

TITLE_WORDS = {"give": True, "vest": True, "swap": True, "whole": True}
WAY_WORDS = {"way": True, "end": True}
CHARGE_WORDS = {"charge": True, "lift": True, "yield": True}
LETTERS = "abcdefghijklmnopqrstuvwxyz"


def is_title(deed):
    """Whether the DEED turns owners."""
    return deed[0] in TITLE_WORDS


def is_way(deed):
    """Whether the DEED is on ways."""
    return deed[0] in WAY_WORDS


def is_charge(deed):
    """Whether the DEED is on charges."""
    return deed[0] in CHARGE_WORDS


def is_whole(deed):
    """Whether the DEED counts wholly or not at all."""
    return deed[0] == "whole"


def cuts_of(deed):
    """The list of the CUTS of the DEED."""
    return list(deed[1:3]) if is_way(deed) else [deed[-1]]


def turned(deed, owner):
    """Whose a POINT is behind the title deed, which it is in the cut of; None for a DEED leaves it."""
    if deed is None:
        return owner
    if deed[0] == "vest":
        return deed[1]
    if owner == deed[1]:
        return deed[2]
    if deed[0] == "swap" and owner == deed[2]:
        return deed[1]
    return owner


def turns_at(history, spot):
    """The list, by places, of the title deeds in whose cut the SPOT is; None in the place of all others."""
    return [deed if is_title(deed) and is_in(spot, deed[-1]) else None for deed in history]


def owners_by(turns, first):
    """The tuple of the owners: at first, behind the first of these turns, and so on."""
    owners = [first]
    for deed in turns:
        owners.append(turned(deed, owners[-1]))
    return tuple(owners)


def owner_by(turns, first):
    """The owner behind all these turns."""
    return owners_by(turns, first)[-1]


def fates(turns):
    """A dict of the owners behind the turns by the first ones, without those who own first and last.

    Under "" stands the owner of all land that is no other's of the dict; only behind a "vest" there is one, and then
    nothing else.
    """
    told = {}
    for deed in reversed(turns):
        if deed is None:
            continue
        if deed[0] == "vest":
            return {"": fate(told, deed[1])}
        ends = [(deed[1], fate(told, deed[2]))]
        if deed[0] == "swap":
            ends.append((deed[2], fate(told, deed[1])))
        for first, last in ends:
            told[first] = last
    return {first: last for first, last in told.items() if first != last}


def fate(told, first):
    """The owner behind, by such a dict, of what is first's at first."""
    return told.get(first, told.get("", first))


def fates_at(history, spot):
    """The dict of the owners behind the HISTORY at the SPOT by the first ones."""
    return fates(turns_at(history, spot))


def parting_owner(one, other):
    """A first owner to whom two such dicts tell unlike owners; None if there is none."""
    named = as_set([name for told in (one, other) for pair in told.items() for name in pair if name != ""])
    for first in named + strangers(named, 1):
        if fate(one, first) != fate(other, first):
            return first
    return None


def part_owners(one, other, world):
    """Whether some POINT of the WORLD has unlike owners behind both HISTORIES."""
    spots = list({spot: True for spot, _, _ in world})
    rows = {spot: (turns_at(one, spot), turns_at(other, spot)) for spot in spots}
    return any([owner_by(rows[spot][0], first) != owner_by(rows[spot][1], first) for spot, _, first in world])


def people_of(deeds):
    """The set of the people who stand in these DEEDS, or VIEWS of such."""
    named = [name for deed in deeds if is_title(deed) for name in deed[1:-1]]
    return as_set([name for name in named if name != ""])


def strangers(named, many):
    """The first so many NAMES that are none of these, shorter ones ahead, else ascending."""
    taken = {name: True for name in named}
    found, number = [], 0
    while len(found) < many:
        name = name_of(number)
        if name not in taken:
            found.append(name)
        number += 1
    return tuple(found)


def name_of(number):
    """The NAME that comes behind so many others, shorter ones ahead, else ascending."""
    name, left = "", number
    while left >= 0:
        name = LETTERS[left % len(LETTERS)] + name
        left = left // len(LETTERS) - 1
    return name


def enough_firsts(deeds, named):
    """First owners by whom all is told: the people of the DEEDS, those who are named, and two strangers."""
    known = as_set(people_of(deeds) + tuple(named))
    return known + strangers(known, 2)


def check_places(history, places):
    """Raises NoDeed for the first of these numbers at which the HISTORY has no DEED."""
    for place in places:
        if not 0 <= place < len(history):
            raise NoDeed(place)


def without(history, places):
    """The list of the DEEDS of the HISTORY at other places than these."""
    return [deed for place, deed in enumerate(history) if place not in places]


def samples(chart, deeds):
    """The list of lists of LET SPOTS that are in the same CUTS of these DEEDS, so that all is the same there."""
    cuts = [cut for deed in deeds for cut in cuts_of(deed)]
    groups = {}
    for spot in let_spots(chart):
        groups.setdefault(tuple([is_in(spot, cut) for cut in cuts]), []).append(spot)
    return list(groups.values())


def alike_spots(chart, deeds, spots):
    """The LAND of the LET SPOTS that are in the same CUTS of these DEEDS as one of these SPOTS."""
    kept = {spot: True for spot in spots}
    return as_set([spot for land in samples(chart, deeds) if any([near in kept for near in land]) for spot in land])
