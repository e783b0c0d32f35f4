"""Wrong, doubtful and late deeds: whose land turns if DEEDS are left out, or done at another place."""

from landpoints.areas import is_world, let_spots
from landpoints.deeds import check_places, enough_firsts, owners_by, part_owners, turned, turns_at, without
from landpoints.errors import CanNot
from landpoints.titles import parted_land, parted_world
from landpoints.values import as_set, as_tuples, is_number_set, is_row


def struck(history, places):
    """The HISTORY without the DEEDS at these places."""
    check_places(history, places)
    return tuple(without(as_tuples(history), places))


def wrong_land(chart, history, places):
    """The LAND at which the owner of some POINT is wrong in the end."""
    return parted_land(chart, history, struck(history, places))


def wrong_behind(chart, history, places, place):
    """The LAND at which the owner of some POINT is wrong behind the DEED at place."""
    check_places(history, list(places) + [place])
    return wrong_land(chart, history[:place + 1], [number for number in places if number <= place])


def healed(chart, history, places):
    """The list of the pairs (place, land) of all DEEDS that heal some LET SPOT, with all that they heal."""
    check_places(history, places)
    cases = wrong_cases(chart, history, places)
    found = []
    for place in range(len(history)):
        # A DEED that is left out heals nothing, even where it turns a wrong owner to the right one.
        spots = [] if place in places else [spot for spot, row, other in cases if is_healing(row, other, place)]
        if spots:
            found.append((place, as_set(spots)))
    return found


def do_otherwise(chart, history, places):
    """The set of the places of the DEEDS that turn the owner of some POINT by just one of both HISTORIES."""
    check_places(history, places)
    cases = wrong_cases(chart, history, places)
    kept = [place for place in range(len(history)) if place not in places]
    return tuple([place for place in kept if any([is_otherwise(row, other, place) for _, row, other in cases])])


def wrong_paper(chart, history, places):
    """A WORLD of one POINT that has a wrong owner in the end."""
    return parted_world(chart, history, struck(history, places))


def is_wrong_paper(chart, history, places, thing):
    """Whether thing is a WORLD in which some POINT has a wrong owner in the end."""
    left = struck(history, places)
    return is_world(chart, thing) and part_owners(history, left, thing)


def fewest_struck(history, spot, first, name):
    """The fewest places without whose DEEDS name owns the POINT in the end, the least such set."""
    best = {first: (0, ())}
    for place, deed in enumerate(turns_at(history, spot)):
        later = {}
        for owner in best:
            many, places = best[owner]
            keep_least(later, turned(deed, owner), (many, places))
            if turned(deed, owner) != owner:
                keep_least(later, owner, (many + 1, places + (place,)))
        best = later
    if name not in best:
        raise CanNot()
    return best[name][1]


def can_own(history, doubts, spot, first):
    """The set of those who own the POINT in the end by some CHOICE."""
    check_places(history, doubts)
    return as_set(list(choices_by_owner(history, doubts, spot, first)))


def doubt_land(chart, history, doubts):
    """The LAND at which some POINT has unlike owners in the end by some two CHOICES."""
    check_places(history, doubts)
    firsts = enough_firsts(history, ())
    return tuple([spot for spot in let_spots(chart) if unsettled_first(history, doubts, spot, firsts) is not None])


def settled_land(chart, history, doubts, name):
    """The LAND that is name's in the end by each CHOICE, whoever owned it at first."""
    check_places(history, doubts)
    firsts = enough_firsts(history, (name,))
    let = let_spots(chart)
    return tuple([spot for spot in let if all([can_own(history, doubts, spot, first) == (name,) for first in firsts])])


def mattering(chart, history, doubts):
    """The set of the doubts that matter."""
    check_places(history, doubts)
    firsts = enough_firsts(history, ())
    cases = [(turns_at(history, spot), first) for spot in let_spots(chart) for first in firsts]
    return tuple([doubt for doubt in as_tuples(doubts) if any([is_felt_in(case, doubts, doubt) for case in cases])])


def doubt_paper(chart, history, doubts):
    """A WORLD of one POINT, and two CHOICES by which it has unlike owners in the end."""
    check_places(history, doubts)
    firsts = enough_firsts(history, ())
    for spot in let_spots(chart):
        first = unsettled_first(history, doubts, spot, firsts)
        if first is not None:
            choices = list(choices_by_owner(history, doubts, spot, first).values())
            return ((spot, 1, first),), choices[0], choices[1]
    raise CanNot()


def is_doubt_paper(chart, history, doubts, thing):
    """Whether thing is a WORLD and two CHOICES by which some POINT of it has unlike owners in the end."""
    check_places(history, doubts)
    if not is_row(thing, 3) or not is_world(chart, thing[0]):
        return False
    world, one, other = thing
    if not is_choice(doubts, one) or not is_choice(doubts, other):
        return False
    near = without(history, [doubt for doubt in doubts if doubt not in one])
    far = without(history, [doubt for doubt in doubts if doubt not in other])
    return part_owners(near, far, world)


def fewest_proofs(history, doubts, spot, first, name):
    """The fewest pairs (place, counts) by which name surely owns the POINT in the end, the least such set."""
    check_places(history, doubts)
    best = {(first,): (0, ())}
    for place, deed in enumerate(turns_at(history, spot)):
        later = {}
        for owners in best:
            many, pairs = best[owners]
            done = as_set([turned(deed, owner) for owner in owners])
            if place not in doubts:
                keep_least(later, done, (many, pairs))
                continue
            keep_least(later, done, (many + 1, pairs + ((place, True),)))
            keep_least(later, owners, (many + 1, pairs + ((place, False),)))
            keep_least(later, as_set(owners + done), (many, pairs))
        best = later
    if (name,) not in best:
        raise CanNot()
    return best[(name,)][1]


def moved(history, place, other):
    """The HISTORY in which the DEED at place stands at other."""
    check_places(history, (place, other))
    deeds = list(as_tuples(history))
    deed = deeds.pop(place)
    deeds.insert(other, deed)
    return tuple(deeds)


def late_land(chart, history, place, other):
    """The LAND at which some POINT has another owner in the end if the DEED at place stands at other."""
    return parted_land(chart, history, moved(history, place, other))


def latest(chart, history, place):
    """The greatest place to which the DEED at place can be moved, all owners in the end being the same."""
    return idle_moves(chart, history, place)[-1]


def earliest(chart, history, place):
    """The least place to which the DEED at place can be moved, all owners in the end being the same."""
    return idle_moves(chart, history, place)[0]


def wrong_cases(chart, history, places):
    """The list of triples of a LET SPOT and the owners along both HISTORIES, for enough first owners."""
    cases, firsts = [], enough_firsts(history, ())
    for spot in let_spots(chart):
        turns = turns_at(history, spot)
        left = [None if place in places else deed for place, deed in enumerate(turns)]
        cases.extend([(spot, owners_by(turns, first), owners_by(left, first)) for first in firsts])
    return cases


def is_healing(row, other, place):
    """Whether owners along two HISTORIES are unlike ahead of the DEED at this place, and not behind it."""
    return row[place] != other[place] and row[place + 1] == other[place + 1]


def is_otherwise(row, other, place):
    """Whether the DEED at this place turns the owner by just one of two HISTORIES, by the owners along them."""
    return (row[place] != row[place + 1]) != (other[place] != other[place + 1])


def keep_least(best, key, worth):
    """Keeps this worth under the key if there is none, or a greater one."""
    best[key] = min(best.get(key, worth), worth)


def choices_by_owner(history, doubts, spot, first):
    """A dict of those who own the POINT in the end by some CHOICE, each with one such CHOICE."""
    choices = {first: ()}
    for place, deed in enumerate(turns_at(history, spot)):
        later = {}
        for owner in choices:
            if place in doubts:
                later.setdefault(owner, choices[owner])
        for owner in choices:
            choice = choices[owner] + (place,) if place in doubts else choices[owner]
            later.setdefault(turned(deed, owner), choice)
        choices = later
    return choices


def unsettled_first(history, doubts, spot, firsts):
    """The first one of these first owners of a POINT that can have unlike owners; None if there is none."""
    for first in firsts:
        if len(choices_by_owner(history, doubts, spot, first)) > 1:
            return first
    return None


def is_felt_in(case, doubts, doubt):
    """Whether two CHOICES that are unlike in this doubt alone tell unlike owners of the POINT of the case."""
    turns, first = case
    pairs = {(first, first): True}
    for place, deed in enumerate(turns):
        done = [(turned(deed, one), turned(deed, other)) for one, other in pairs]
        if place == doubt:
            done = [(turned(deed, one), one) for one, _ in pairs]
        elif place in doubts:
            done = done + list(pairs)
        pairs = {pair: True for pair in done}
    return any([one != other for one, other in pairs])


def is_choice(doubts, thing):
    """Whether thing is a CHOICE: a set of some of the doubts."""
    return is_number_set(thing) and all([doubt in doubts for doubt in thing])


def idle_moves(chart, history, place):
    """The ascending list of the places to which the DEED can be moved, all owners in the end being the same."""
    check_places(history, (place,))
    return [other for other in range(len(history)) if not late_land(chart, history, place, other)]
