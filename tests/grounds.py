"""MAPS, CUTS, LANDS, PARCELS and odd things for the tests, the same ones in each run."""

from random import Random

from tests import plain

NAMES = ("a", "b", "c", "d", "e")
ALL = ((),)


def areas_of(many):
    return NAMES[:many]


def some_cuts(areas, many, longest=4, seed=1):
    """The CUTS () and ((),), and many others, each of at most so many CONDITIONS."""
    chosen = Random(f"{areas} {many} {longest} {seed}")
    conditions = plain.all_conditions(areas)
    cuts = {(), ALL}
    for _ in range(many):
        length = min(chosen.randint(1, longest), len(conditions))
        cuts.add(tuple(sorted(chosen.sample(conditions, length))))
    return sorted(cuts)


def maps(most=3, surveys=8, seed=2):
    """MAPS of none to most AREAS, with several surveys each."""
    found = []
    for many in range(most + 1):
        areas = areas_of(many)
        for bare in some_cuts(areas, surveys, 3, seed):
            found.append((areas, bare))
        for condition in plain.all_conditions(areas)[:surveys]:
            found.append((areas, (condition,)))
    return sorted(set(found))


def great_maps():
    """Some MAPS of four AREAS."""
    return [(areas_of(4), bare) for bare in some_cuts(areas_of(4), 4, 5, 3)]


def lands(chart, many=12):
    """The LANDS () and that of all LET SPOTS, and others: all of them if they are few."""
    let = plain.let(chart)
    if len(let) <= 3:
        return plain.subsets(let)
    chosen = Random(f"{chart} {many}")
    found = {(), let}
    for _ in range(many):
        found.add(tuple(sorted(chosen.sample(let, chosen.randint(1, len(let) - 1)))))
    return sorted(found)


def some_parcels(chart, many, seed=4):
    """PARCELS of the MAP: none, one of all land, some that are a plan and some that are none."""
    chosen = Random(f"{chart} {many} {seed}")
    cuts = some_cuts(chart[0], 10, 2, seed)
    exact = [tuple((area, area in spot) for area in chart[0]) for spot in plain.subsets(chart[0])]
    found = [(), (("all", ALL),), (("all", ALL), ("none", ()))]
    for at in range(many):
        if at % 2:
            names = ("fen", "hill", "moor", "wood")[:chosen.randint(1, 4)]
            found.append(tuple((name, chosen.choice(cuts)) for name in names))
        else:
            names = ("east", "north", "west")[:chosen.randint(1, 3)]
            shares = {name: [] for name in names}
            for condition in exact:
                shares[chosen.choice(names)].append(condition)
            found.append(tuple((name, tuple(sorted(shares[name]))) for name in names))
    return found


def lay_from(chart, lots, names=("kay", "lot", "may", "nut", "oak", "pit", "run", "sea")):
    """A LAY of these LOTS, and of one parcel of no land."""
    return tuple(zip(names, lots)) + (("void", ()),)


def nested(levels):
    thing = ()
    for _ in range(levels - 1):
        thing = (thing,)
    return thing


ODD = (None, True, False, 0, 1, -1, 10 ** 40, "", "a", "b", "A", "z", "a b", "abcdefgh", "abcdefghi", "ab1", "-",
       (), [], ((),), [[]], ("a",), ["a"], ("b", "a"), ("a", "a"), ("a", True), (("a", True),), (("a", 1),),
       nested(12), ("a",) * 3, ((), 1, "ann"), ("ann", ()))


def variants(thing, odd=ODD):
    """Things that come of this one by one change, at whatever depth."""
    yield from odd
    if isinstance(thing, str):
        yield thing.upper()
        yield thing + "\n"
        yield thing + "abcdefgh"
        yield chr(228) + thing
    if isinstance(thing, bool):
        yield int(thing)
        yield not thing
    elif isinstance(thing, int):
        yield thing == 1
        yield thing * 10 ** 50
        yield -thing
    if isinstance(thing, tuple):
        yield list(thing)
        yield thing[::-1]
        yield thing[1:]
        yield thing[:-1]
        yield thing + thing[:1]
        yield thing[-1:] + thing
        for other in odd:
            yield thing + (other,)
            yield (other,) + thing
        for at, member in enumerate(thing):
            for other in variants(member, odd):
                yield thing[:at] + (other,) + thing[at + 1:]
