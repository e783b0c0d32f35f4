"""Runs: what comes of the DEEDS of a HISTORY in other ORDERS, told case by case.

A case is a triple (world, start, steps): a WORLD of one POINT or of two, a state, and by places what each DEED does to
the state, None if nothing. What is to be told comes first in a state: an owner, a charge row, or if there is a way.
"""

from landpoints.areas import is_in
from landpoints.charges import charged
from landpoints.deeds import enough_firsts, is_charge, is_title, is_way, samples, turned
from landpoints.values import as_tuples


def cases_of(chart, history):
    """The list of all cases in which two DEEDS or more do something."""
    deeds = as_tuples(history)
    firsts = enough_firsts(deeds, ())
    spots = [land[0] for land in samples(chart, deeds)]
    cases = []
    for spot in spots:
        steps = owner_steps(deeds, spot)
        cases.extend([(((spot, 1, first),), (first,), steps) for first in firsts])
        cases.append((((spot, 1, "a"),), ((),), row_steps(deeds, spot)))
    for near in spots:
        for far in spots:
            cases.extend(way_cases(deeds, near, far, firsts))
    return [case for case in cases if len(places_in(case)) > 1]


def owner_steps(deeds, spot):
    """The steps of the owner of a POINT in the SPOT."""
    return tuple([("owner", deed, None) if is_title(deed) and is_in(spot, deed[-1]) else None for deed in deeds])


def row_steps(deeds, spot):
    """The steps of the charge row of the SPOT."""
    return tuple([("row", deed, None) if is_charge(deed) and is_in(spot, deed[-1]) else None for deed in deeds])


def way_cases(deeds, near, far, firsts):
    """The list of the cases of a way from a POINT in near to one in far; empty if no DEED makes one."""
    steps = tuple([way_step(deed, near, far) for deed in deeds])
    if not any([step is not None and step[0] == "way" for step in steps]):
        return []
    pairs = [(first, last) for first in firsts for last in firsts]
    return [(((near, 1, first), (far, 1, last)), (False, first, last), steps) for first, last in pairs]


def way_step(deed, near, far):
    """What the DEED does to the way from a POINT in near to one in far, and to both owners; None if nothing."""
    if is_way(deed):
        return (deed[0], None, None) if is_in(near, deed[1]) and is_in(far, deed[2]) else None
    if not is_title(deed) or not is_in(near, deed[-1]) and not is_in(far, deed[-1]):
        return None
    return "", deed if is_in(near, deed[-1]) else None, deed if is_in(far, deed[-1]) else None


def stepped(step, state):
    """The state behind the step."""
    word, near, far = step
    if word == "owner":
        return (turned(near, state[0]),)
    if word == "row":
        return (charged(near, state[0]),)
    owner, other = turned(near, state[1]), turned(far, state[2])
    there = word == "way" or word == "" and state[0]
    return there and owner != other, owner, other


def places_in(case):
    """The list of the places of the DEEDS that do something in the case."""
    return [place for place, step in enumerate(case[2]) if step is not None]


def two_runs(case, closed, ended):
    """Two runs of the same DEEDS of the case that lead to what is unlike; None if there are none.

    closed are the WAITS with all that they lead to; if ended, only runs of all DEEDS count.
    """
    _, start, steps = case
    places = places_in(case)
    # What the WAITS tell of DEEDS that do nothing here is told of the others, too, as they are closed.
    waits = [pair for pair in closed if pair[0] in places and pair[1] in places]
    level = {(): {start: ()}}
    for many in range(len(places)):
        level = next_level(level, places, waits, steps)
        if many == len(places) - 1 or not ended:
            for states in list(level.values()):
                told = unlike_runs(states)
                if told is not None:
                    return told
    return None


def next_level(level, places, waits, steps):
    """By sets of places that are done the dict of states, each with a run to it, one DEED behind this level."""
    later = {}
    for done in level:
        for place in places:
            if place in done or not is_free(place, waits, done):
                continue
            states = later.setdefault(tuple(sorted(done + (place,))), {})
            for state, run in level[done].items():
                states.setdefault(stepped(steps[place], state), run + (place,))
    return later


def is_free(place, waits, done):
    """Whether the DEED at this place can be done behind these."""
    return all([one in done for one, other in waits if other == place])


def unlike_runs(states):
    """Two of the runs of a dict of states that lead to what is unlike; None if there are none."""
    runs = {}
    for state, run in states.items():
        runs.setdefault(state[0], run)
    found = list(runs.values())
    return (found[0], found[1]) if len(found) > 1 else None


def whole_run(run, closed, places):
    """The run with all these places in it, and ahead of each place all that it waits for."""
    whole = []
    for place in run + places:
        ahead = [one for one, other in closed if other == place]
        whole.extend([one for one in ahead + [place] if one not in whole])
    return tuple(whole)
