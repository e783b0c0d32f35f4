"""HISTORIES, VIEWS and WORLDS for the tests, the same ones in each run."""

from random import Random

from tests import grounds

PEOPLE = ("ann", "bob", "cid", "dan")
CHARGES = ("debt", "loan", "rent")
# NAMES of areas, and of the first strangers that come to mind; people and charges may well have them all.
SHORT = ("a", "b", "c", "d")
TITLES = ("give", "give", "give", "vest", "swap")
ALL_WORDS = TITLES + ("way", "way", "end", "charge", "lift", "yield")


def some_deed(chosen, word, cuts, people=PEOPLE, charges=CHARGES):
    cut = chosen.choice(cuts)
    if word in ("give", "swap", "whole"):
        return (word, *chosen.sample(people, 2), cut)
    if word == "vest":
        return (word, chosen.choice(people), cut)
    if word in ("way", "end"):
        return (word, cut, chosen.choice(cuts))
    if word in ("charge", "lift"):
        return (word, chosen.choice(charges), cut)
    return (word, *chosen.sample(charges, 2), cut)


def cuts_for(areas, seed=1):
    """CUTS, those of much land more often than () ."""
    cuts = grounds.some_cuts(areas, 6, 2, seed)
    return cuts + [cut for cut in cuts if cut != ()] + [grounds.ALL] * 3


def some_history(chosen, areas, longest, words=ALL_WORDS, people=PEOPLE, charges=CHARGES):
    cuts = cuts_for(areas, chosen.randint(1, 5))
    return tuple(some_deed(chosen, chosen.choice(words), cuts, people, charges)
                 for _ in range(chosen.randint(0, longest)))


def some_charts(chosen, most):
    """A MAP of none to so many AREAS, rarely one without any land."""
    areas = grounds.areas_of(chosen.randint(0, most))
    cuts = [cut for cut in grounds.some_cuts(areas, 5, 2) if cut != grounds.ALL or chosen.random() < 0.3]
    return areas, chosen.choice(cuts)


def cases(name, many, most=2, longest=5, words=ALL_WORDS, people=PEOPLE[:3], charges=CHARGES):
    """Pairs (chart, history); among them MAPS without AREAS, without land, and the HISTORY ().

    In each fourth one areas, people and charges have NAMES in common.
    """
    chosen = Random(name)
    found = [(((), ()), ()), (((), ((),)), ()), ((("a",), ()), ())]
    for at in range(many):
        chart = some_charts(chosen, most)
        if at % 4 == 3:
            history = some_history(chosen, chart[0], longest, words, SHORT[:len(people)], SHORT[:len(charges)])
        else:
            history = some_history(chosen, chart[0], longest, words, people, charges)
        found.append((chart, history))
    return found


def some_places(chosen, history):
    return tuple(sorted(chosen.sample(range(len(history)), chosen.randint(0, len(history)))))


def some_cut(chosen, chart):
    return chosen.choice(grounds.some_cuts(chart[0], 4, 2))


def some_world(chosen, chart, firsts, most=4):
    """A WORLD of none to so many POINTS; () if there is no land."""
    let = grounds.plain.let(chart)
    many = chosen.randint(0, most) if let else 0
    return tuple((chosen.choice(let), chosen.randint(1, 9), chosen.choice(firsts)) for _ in range(many))
