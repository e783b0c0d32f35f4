"""Titles: who owns where behind a HISTORY, what each of its DEEDS does to that, and PASSINGS."""

from landpoints.areas import is_cut, is_in, is_world, land_of, let_spots
from landpoints.deeds import check_places, enough_firsts, fate, fates, fates_at, is_title, is_whole, owner_by
from landpoints.deeds import owners_by, parting_owner, people_of, samples, strangers, turned, turns_at, without
from landpoints.errors import CanNot
from landpoints.values import all_parts, as_set, as_tuples, is_name, is_named_row

# How many names and how many CUTS stand behind the word of a DEED.
FORMS = {"give": (2, 1), "vest": (1, 1), "swap": (2, 1), "whole": (2, 1), "way": (0, 2), "end": (0, 2),
         "charge": (1, 1), "lift": (1, 1), "yield": (2, 1)}


def is_deed(chart, thing):
    """Whether thing is a DEED of the MAP, "whole" let, too."""
    if not isinstance(thing, tuple) or not thing or not isinstance(thing[0], str) or thing[0] not in FORMS:
        return False
    names, cuts = FORMS[thing[0]]
    if len(thing) != 1 + names + cuts or not all([is_name(name) for name in thing[1:1 + names]]):
        return False
    if names == 2 and thing[1] == thing[2]:
        return False
    return all([is_cut(chart[0], cut) for cut in thing[1 + names:]])


def is_history(chart, thing):
    """Whether thing is a HISTORY of the MAP, of however many DEEDS, "whole" let, too."""
    return isinstance(thing, tuple) and all([is_deed(chart, deed) for deed in thing])


def people_in(history):
    """The set of the people who stand in the DEEDS."""
    return people_of(history)


def stranger_to(history):
    """The first NAME, shorter ones ahead, of a person who stands in none of the DEEDS."""
    return strangers(people_of(history), 1)[0]


def owners_along(history, spot, first):
    """The tuple of the owners of a POINT in the SPOT: at first, behind the first DEED, and so on."""
    return owners_by(turns_at(history, spot), first)


def owner_behind(history, spot, first):
    """The owner of a POINT in the SPOT behind the HISTORY."""
    return owner_by(turns_at(history, spot), first)


def first_owners(history, spot, person):
    """The set of those of the DEEDS, and person, whose POINT in the SPOT is person's behind the HISTORY."""
    told = fates_at(history, spot)
    return tuple([first for first in as_set(people_of(history) + (person,)) if fate(told, first) == person])


def sure_land(chart, history, person):
    """The LAND that is this person's behind the HISTORY, whoever owned it at first."""
    return tuple([spot for spot in let_spots(chart) if is_sure(fates_at(history, spot), person)])


def maybe_land(chart, history, person):
    """The LAND that can be this person's behind the HISTORY."""
    return tuple([spot for spot in let_spots(chart) if first_owners(history, spot, person)])


def unsettled_land(chart, history):
    """The LAND that is nobody's surely behind the HISTORY."""
    return tuple([spot for spot in let_spots(chart) if "" not in fates_at(history, spot)])


def passed_land(chart, history, first, owner):
    """The LAND that passes from first to owner by the HISTORY."""
    return tuple([spot for spot in let_spots(chart) if owner_behind(history, spot, first) == owner])


def surely_has(chart, history, person, cut):
    """Whether all land in the CUT is surely this person's behind the HISTORY."""
    return all([is_sure(fates_at(history, spot), person) for spot in land_of(chart, cut)])


def title_paper(chart, history, person, cut):
    """A WORLD of one POINT in the CUT that is not this person's behind the HISTORY."""
    for spot in land_of(chart, cut):
        first = parting_owner(fates_at(history, spot), {"": person})
        if first is not None:
            return ((spot, 1, first),)
    raise CanNot()


def is_title_paper(chart, history, person, cut, thing):
    """Whether thing is a WORLD of one POINT in the CUT that is not this person's behind the HISTORY."""
    if not is_world(chart, thing) or len(thing) != 1:
        return False
    spot, _, first = thing[0]
    return is_in(spot, cut) and owner_behind(history, spot, first) != person


def felt_land(chart, history, place):
    """The LAND at which the DEED at this place turns the owner of some POINT."""
    check_places(history, (place,))
    firsts = enough_firsts(history, ())
    return tuple([spot for spot in let_spots(chart) if is_felt_at(turns_at(history, spot), place, firsts)])


def idle_deeds(chart, history):
    """The set of the places of the title deeds that turn no owner."""
    titles = [place for place, deed in enumerate(history) if is_title(deed)]
    return tuple([place for place in titles if not felt_land(chart, history, place)])


def wanted_land(chart, history, place):
    """The LAND at which without the DEED at this place some POINT has another owner behind the HISTORY."""
    check_places(history, (place,))
    return parted_land(chart, history, without(history, (place,)))


def same_titles(chart, one, other):
    """Whether each POINT has the same owner behind both HISTORIES."""
    return not parted_land(chart, one, other)


def parted_land(chart, one, other):
    """The LAND at which some POINT has unlike owners behind both HISTORIES."""
    return tuple([spot for spot in let_spots(chart) if fates_at(one, spot) != fates_at(other, spot)])


def parted_world(chart, one, other):
    """A WORLD of one POINT that has unlike owners behind both HISTORIES."""
    for spot in let_spots(chart):
        first = parting_owner(fates_at(one, spot), fates_at(other, spot))
        if first is not None:
            return ((spot, 1, first),)
    raise CanNot()


def is_parted_world(chart, one, other, thing):
    """Whether thing is a WORLD of one POINT that has unlike owners behind both HISTORIES."""
    if not is_world(chart, thing) or len(thing) != 1:
        return False
    spot, _, first = thing[0]
    return owner_behind(one, spot, first) != owner_behind(other, spot, first)


def can_go(chart, history, places):
    """Whether without the DEEDS at these places each POINT has the same owner behind the HISTORY."""
    check_places(history, places)
    return same_titles(chart, history, without(history, places))


def fewest_deeds(chart, history):
    """The fewest places whose DEEDS alone leave the same owners as the HISTORY, the least such set."""
    rows = [turns_at(history, spots[0]) for spots in samples(chart, history)]
    wanted = [fates(turns) for turns in rows]
    titles = [place for place, deed in enumerate(history) if is_title(deed)]
    for _, places in sorted([(len(part), part) for part in all_parts(titles)]):
        if all([fates([turns[place] for place in places]) == told for turns, told in zip(rows, wanted)]):
            return places
    return tuple(titles)


def is_passing(thing):
    """Whether thing is a PASSING, of however many persons."""
    if not is_named_row(thing):
        return False
    persons = {person: True for person, _ in thing}
    return all([isinstance(owner, str) and owner in persons for _, owner in thing])


def makes(chart, history, passing, cut):
    """Whether the HISTORY makes the PASSING on the CUT."""
    wanted = {person: owner for person, owner in passing if person != owner}
    goals = [(spot, wanted if is_in(spot, cut) else {}) for spot in let_spots(chart)]
    return all([fates_at(history, spot) == goal for spot, goal in goals])


def fewest_to_make(chart, passing, cut):
    """How few DEEDS make the PASSING on the CUT."""
    if not land_of(chart, cut):
        return 0
    return len(passing) - len(rounds_of(passing))


def making(chart, passing, cut):
    """A HISTORY of as few DEEDS as can be that makes the PASSING on the CUT."""
    where = as_tuples(cut)
    if not land_of(chart, where):
        return ()
    owners, deeds, settled = dict(as_tuples(passing)), [], {}
    for ring in rounds_of(passing):
        deeds.extend([("swap", ring[0], other, where) for other in ring[1:]])
        for person in ring:
            settled[person] = True
    # Who gives to somebody gives when this one has given on already what was his own at first.
    while len(settled) < len(owners):
        for person in [name for name in owners if name not in settled and owners[name] in settled]:
            deeds.append(("give", person, owners[person], where))
            settled[person] = True
    return tuple(deeds)


def is_making(chart, passing, cut, thing):
    """Whether thing is a HISTORY without "whole" that makes the PASSING on the CUT."""
    if not is_plain_history(chart, thing):
        return False
    return makes(chart, thing, passing, cut)


def is_plain_history(chart, thing):
    """Whether thing is a HISTORY of the MAP without "whole"."""
    return is_history(chart, thing) and not any([is_whole(deed) for deed in thing])


def is_sure(told, person):
    """Whether all owners behind are this person, by a dict of fates."""
    return told == {"": person}


def is_felt_at(turns, place, firsts):
    """Whether the turn at this place turns the owner of a POINT that is one of these at first."""
    for first in firsts:
        owner = owner_by(turns[:place], first)
        if turned(turns[place], owner) != owner:
            return True
    return False


def rounds_of(passing):
    """The list of the tuples of persons of the PASSING each of whom passes to the next one, the last to the first."""
    owners, met, found = dict(as_tuples(passing)), {}, []
    for start in owners:
        row, person = [], start
        while person not in met:
            met[person] = start
            row.append(person)
            person = owners[person]
        if met[person] == start:
            found.append(tuple(row[row.index(person):]))
    return found
