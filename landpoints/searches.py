"""Searches: which takers one has to look up to know the owners; in VIEWS the others are not seen."""

from landpoints.areas import is_in, is_world, land_of, let_spots, with_bare
from landpoints.deeds import check_places, fate, fates, owner_by, people_of, samples, strangers, turned, turns_at
from landpoints.errors import CanNot, Unfit
from landpoints.titles import is_plain_history
from landpoints.values import as_set, as_tuples, is_number_set, is_row


def is_view(chart, thing):
    """Whether thing is a VIEW of the MAP, of however many DEEDS."""
    if not isinstance(thing, tuple):
        return False
    # A taker that is not seen can be anybody but the giver, so one that fits is put in.
    return is_plain_history(chart, tuple([with_any_taker(deed) for deed in thing]))


def is_filling(chart, view, thing):
    """Whether thing is a HISTORY that is the VIEW with a NAME for each taker that is not seen."""
    told = as_tuples(view)
    if not is_plain_history(chart, thing) or len(thing) != len(told):
        return False
    return all([seen == (deed if is_seen(seen) else as_unseen(deed)) for seen, deed in zip(told, thing)])


def unseen_places(view):
    """The set of the places of the takers that are not seen."""
    return tuple([place for place, deed in enumerate(view) if not is_seen(deed)])


def seen_at(view, places):
    """The VIEW in which the takers at other places are not seen."""
    check_places(view, places)
    return tuple([deed if place in places else as_unseen(deed) for place, deed in enumerate(as_tuples(view))])


def with_taker(view, place, name):
    """The VIEW with this taker at this place, at which none is seen."""
    check_places(view, (place,))
    deed = as_tuples(view[place])
    if is_seen(deed) or name == deed[1]:
        raise Unfit()
    return taken_by(view, place, name)


def sure_owner(view, spot, first):
    """Who surely owns a POINT in the SPOT; None if nobody does."""
    owners = may_own(view, spot, first)
    return owners[0] if len(owners) == 1 and owners[0] != "" else None


def may_own(view, spot, first):
    """The set of those who can own a POINT in the SPOT, with "" for all who are not in the VIEW, nor first."""
    return may_own_along(view, spot, first)[-1]


def land_sure_of(chart, view, first, name):
    """The LAND that is surely name's if it was first's at first."""
    return tuple([spot for spot in let_spots(chart) if sure_owner(view, spot, first) == name])


def unsure_land(chart, view, firsts):
    """The LAND on which the owner is not sure for some of the first owners."""
    let = let_spots(chart)
    return tuple([spot for spot in let if any([sure_owner(view, spot, first) is None for first in firsts])])


def chain(history, spot, first):
    """The set of the places whose takers tell who owns a POINT in the SPOT behind the HISTORY."""
    owner, found = first, []
    for place, deed in enumerate(turns_at(history, spot)):
        if deed is not None and deed[0] == "vest":
            found = [place]
        elif deed is not None and deed[0] == "give" and deed[1] == owner:
            found.append(place)
        owner = turned(deed, owner)
    return tuple(found)


def least_search(chart, history, cut, firsts):
    """The least SEARCH: the set of the places of all chains at LET SPOTS in the CUT for the first owners."""
    return as_set([place for spot in land_of(chart, cut) for first in firsts for place in chain(history, spot, first)])


def is_search(chart, history, cut, firsts, thing):
    """Whether thing is a set of places of DEEDS that is a SEARCH."""
    if not is_number_set(thing) or not all([0 <= place < len(history) for place in thing]):
        return False
    return all([place in thing for place in least_search(chart, history, cut, firsts)])


def unsure_paper(chart, history, cut, firsts, places):
    """A filling of what is seen at these places, and a WORLD of one POINT to which it tells another owner."""
    check_places(history, places)
    for spot in land_of(chart, cut):
        for first in firsts:
            missed = [place for place in chain(history, spot, first) if place not in places]
            if missed:
                # A stranger who takes it gives nothing on.
                stranger = strangers(people_of(history) + tuple(firsts), 1)[0]
                return taken_by(history, missed[0], stranger), ((spot, 1, first),)
    raise CanNot()


def is_unsure_paper(chart, history, cut, firsts, places, thing):
    """Whether thing is a pair of such a filling and of such a WORLD."""
    check_places(history, places)
    if not is_row(thing, 2) or not is_filling(chart, seen_at(history, places), thing[0]):
        return False
    other, world = thing
    if not is_world(chart, world) or len(world) != 1:
        return False
    spot, _, first = world[0]
    if not is_in(spot, cut) or first not in firsts:
        return False
    return owner_by(turns_at(history, spot), first) != owner_by(turns_at(other, spot), first)


def next_looks(chart, view, cut, firsts):
    """The set of the places of takers that are not seen and that the least SEARCH has by each filling."""
    # By unlike strangers as takers the chains are the shortest, and "" gives as little as they do.
    unseen = unseen_places(view)
    return tuple([place for place in least_search(chart, view, cut, firsts) if place in unseen])


def searched(chart, view, cut, firsts, asker):
    """The VIEW with as many takers told by the asker as make the owners sure."""
    told = as_tuples(view)
    looks = next_looks(chart, told, cut, firsts)
    while looks:
        for place in looks:
            told = taken_by(told, place, asker(place))
        looks = next_looks(chart, told, cut, firsts)
    return told


def ever_looked(chart, view, cut, firsts):
    """The set of the places that the least SEARCH has by some filling."""
    found = []
    for spot in land_of(chart, cut):
        for first in firsts:
            found.extend(ever_in_chain(view, spot, first))
    return as_set(found)


def most_looks(view, spot, first):
    """How many places the chain has at the most by some filling."""
    known, counts = known_to(view, first), {first: 0}
    for deed in turns_at(view, spot):
        if deed is not None and deed[0] == "vest":
            counts = {owner: 1 for owner in next_owners(deed, first, known)}
            continue
        later = {}
        for owner in counts:
            steps = 1 if deed is not None and deed[0] == "give" and deed[1] == owner else 0
            for other in next_owners(deed, owner, known):
                later[other] = max(later.get(other, 0), counts[owner] + steps)
        counts = later
    return max(list(counts.values()))


def saved_looks(chart, history, cut, firsts, condition):
    """The set of the places in the least SEARCH that are in it no more with this CONDITION in the survey."""
    left = least_search(with_bare(chart, condition), history, cut, firsts)
    return tuple([place for place in least_search(chart, history, cut, firsts) if place not in left])


def left_behind(chart, view):
    """How many DEEDS at the most can be left out at the beginning, all owners being the same by each filling."""
    people = people_of(view)
    firsts = people + strangers(people, 1)
    cases = [(spots[0], first) for spots in samples(chart, view) for first in firsts]
    reached = [may_own_along(view, spot, first) for spot, first in cases]
    filled = with_strangers(view)
    for many in range(len(view), 0, -1):
        rest = filled[many:]
        if all([is_left_same(rest, case, along[many]) for case, along in zip(cases, reached)]):
            return many
    return 0


def is_seen(deed):
    """Whether the DEED has no taker that is not seen."""
    return deed[0] not in ("give", "vest") or deed[-2] != ""


def as_unseen(deed):
    """The DEED, its taker not being seen if it has one."""
    if deed[0] not in ("give", "vest"):
        return deed
    return deed[:-2] + ("", deed[-1])


def with_any_taker(thing):
    """What is to be asked for a DEED in the place of this thing: with a taker if none is seen."""
    if is_row(thing, 3) and thing[0] == "vest" and thing[1] == "":
        return ("vest", "a", thing[2])
    if is_row(thing, 4) and thing[0] == "give" and thing[2] == "":
        return ("give", thing[1], "b" if thing[1] == "a" else "a", thing[3])
    return thing


def taken_by(view, place, name):
    """The VIEW with this taker at this place."""
    told = as_tuples(view)
    return told[:place] + (told[place][:-2] + (name, told[place][-1]),) + told[place + 1:]


def with_strangers(view):
    """The filling of the VIEW with unlike strangers."""
    told, people = as_tuples(view), people_of(view)
    # One stranger is passed over: he stands for first owners.
    names = strangers(people, len(told) + 1)[1:]
    return tuple([deed if is_seen(deed) else deed[:-2] + (name, deed[-1]) for deed, name in zip(told, names)])


def known_to(view, first):
    """The set of the people in the VIEW and this first owner."""
    return as_set(people_of(view) + (first,))


def next_owners(deed, owner, known):
    """The list of those who can own behind the turn what is this owner's, "" for all who are not known."""
    if deed is None or is_seen(deed) or deed[0] == "give" and deed[1] != owner:
        return [turned(deed, owner)]
    return [""] + [name for name in known if name != deed[1]]


def may_own_along(view, spot, first):
    """The list of the sets of those who can own a POINT in the SPOT: at first, behind the first DEED, and so on."""
    known, sets = known_to(view, first), [(first,)]
    for deed in turns_at(view, spot):
        sets.append(as_set([other for owner in sets[-1] for other in next_owners(deed, owner, known)]))
    return sets


def ever_in_chain(view, spot, first):
    """The list of the places that the chain has by some filling."""
    sets, found = may_own_along(view, spot, first), []
    for place, deed in enumerate(turns_at(view, spot)):
        if deed is not None and deed[0] == "vest":
            found = [place]
        elif deed is not None and deed[0] == "give" and deed[1] in sets[place]:
            found.append(place)
    return found


def is_left_same(rest, case, owners):
    """Whether all these owners come to the same by the rest of a VIEW as the first one of the case."""
    spot, first = case
    told = fates(turns_at(rest, spot))
    return all([fate(told, owner) == fate(told, first) for owner in owners])
