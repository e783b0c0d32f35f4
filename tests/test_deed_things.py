"""is_deed and its kind, of things of all sorts, each by one change from what is one, beside a look of its own."""

import unittest
from itertools import product

from landpoints import charges, orders, searches, titles, ways, wholes, wrongs
from tests import grounds, plain, plain_deeds
from tests.test_things import FINE_NAMES, NO_TUPLES, ODD_TEXTS, is_fine_cut, is_fine_name, is_fine_world

ALL, IN_A, IN_B = ((),), ((("a", True),),), ((("b", True),),)
CHART, SMALL, TINY = (("a", "b"), ((("a", False), ("b", True)),)), (("a",), ()), ((), ())
DEEDS = (("give", "ann", "bob", IN_A), ("vest", "cid", ALL), ("swap", "bob", "ann", ()), ("whole", "ann", "cid", IN_B),
         ("way", IN_A, ALL), ("end", (), IN_B), ("charge", "debt", ALL), ("lift", "debt", IN_A),
         ("yield", "debt", "loan", IN_B))
ODD = (None, True, False, 0, 1, -1, 10 ** 40, "", "a", "ann", "Ann", "give", "whole", "keep", (), [], ((),), ("a",),
       (("a", True),), (("a", 1),), grounds.nested(12), ("vest", "ann", ((),)), ("whole", "ann", "bob", ()),
       ("way", (), ()), ("vest", "", ()))
NAMES_OF = {"give": 2, "vest": 1, "swap": 2, "whole": 2, "way": 0, "end": 0, "charge": 1, "lift": 1, "yield": 2}


def is_fine_deed(chart, thing):
    if type(thing) is not tuple or not thing or type(thing[0]) is not str or thing[0] not in NAMES_OF:
        return False
    names, cuts = thing[1:1 + NAMES_OF[thing[0]]], thing[1 + NAMES_OF[thing[0]]:]
    if len(names) != NAMES_OF[thing[0]] or len(cuts) != (1 if names else 2):
        return False
    if not all(is_fine_name(name) for name in names) or len(set(names)) != len(names):
        return False
    return all(is_fine_cut(chart[0], cut) for cut in cuts)


def is_fine_history(chart, thing, whole=True):
    if type(thing) is not tuple or not all(is_fine_deed(chart, deed) for deed in thing):
        return False
    return whole or all(deed[0] != "whole" for deed in thing)


def is_fine_view(chart, thing):
    """A VIEW is such a tuple that is a HISTORY with "zed", "yul" in the place of each ""."""
    if type(thing) is not tuple:
        return False
    filled = []
    for deed in thing:
        if type(deed) is tuple and len(deed) >= 3 and deed[0] in ("give", "vest") and plain.same(deed[-2], ""):
            deed = deed[:-2] + ("yul" if "zed" in deed else "zed", deed[-1])
        filled.append(deed)
    return is_fine_history(chart, tuple(filled), False)


def is_fine_filling(chart, view, thing):
    if not is_fine_history(chart, thing, False) or len(thing) != len(view):
        return False
    for seen, deed in zip(view, thing):
        taker = len(seen) - 2 if seen[0] in ("give", "vest") and seen[-2] == "" else None
        if len(seen) != len(deed) or any(not plain.same(one, other) for at, (one, other) in enumerate(zip(seen, deed))
                                         if at != taker):
            return False
    return True


def is_fine_passing(thing):
    if type(thing) is not tuple or not all(type(pair) is tuple and len(pair) == 2 for pair in thing):
        return False
    persons = [person for person, _ in thing]
    return (all(is_fine_name(person) for person in persons) and persons == sorted(set(persons))
            and all(type(owner) is str and owner in persons for _, owner in thing))


def is_fine_set(thing, values):
    return (type(thing) is tuple and all(type(number) is int and number in values for number in thing)
            and list(thing) == sorted(set(thing)))


def is_one_point(chart, thing):
    return is_fine_world(chart, thing) and len(thing) == 1


def is_fine_run(history, waits, thing):
    if type(thing) is not tuple or not all(type(place) is int and 0 <= place < len(history) for place in thing):
        return False
    return len(set(thing)) == len(thing) and all(one in thing[:thing.index(other)]
                                                 for one, other in waits if other in thing)


class Looks(unittest.TestCase):
    def look(self, tells, wanted, bases, odd=ODD):
        """Compares both of each base, and of all that comes of it by one change."""
        fine = 0
        for base in bases:
            for thing in (base, *grounds.variants(base, odd)):
                answer = tells(thing)
                self.assertIs(answer, wanted(thing), repr(thing)[:300])
                fine += answer
        self.assertGreater(fine, 0)
        for thing in NO_TUPLES:
            self.assertIs(tells(thing), False, repr(thing))
        deep = grounds.nested(11)
        for thing in ((deep,), (deep, deep), (deep, deep, deep), (("give", deep),), ((deep, 1, "ann"),)):
            self.assertIs(tells(thing), False)


class Things(Looks):
    def test_is_deed(self):
        for chart in (CHART, (("a", "b", "c"), ALL)):
            self.look(lambda thing: titles.is_deed(chart, thing), lambda thing: is_fine_deed(chart, thing), DEEDS)

    def test_is_history(self):
        for base in [(deed,) for deed in DEEDS] + [(), DEEDS[:2], DEEDS[:1] * 2]:
            self.look(lambda thing: titles.is_history(CHART, thing), lambda thing: is_fine_history(CHART, thing),
                      (base,))

    def test_words_and_names(self):
        for word in (*ODD_TEXTS, "gives", "Give", "GIVE", "give ", "sell", "whol", "ways", None, 1, True, ("give",),
                     ["give"]):
            for rest in (("ann", "bob", ALL), ("ann", ALL), (ALL, ALL)):
                self.assertIs(titles.is_deed(CHART, (word,) + rest), False)
        for name in FINE_NAMES:
            for deed in (("give", name, "bob", ALL), ("vest", name, ()), ("swap", "bob", name, ()),
                         ("lift", name, ALL)):
                self.assertIs(titles.is_deed(CHART, deed), True, deed)
                self.assertIs(searches.is_view(CHART, (deed,)), True, deed)
            self.assertIs(titles.is_passing(((name, name),)), True)
        for name in ODD_TEXTS + (None, True, 0, 1, (), ["ann"], ("ann",)):
            for deed in (("give", name, "bob", ALL), ("whole", "ann", name, ALL), ("swap", "bob", name, ()),
                         ("charge", name, ALL), ("yield", "debt", name, ALL), ("yield", name, "debt", ALL)):
                self.assertIs(titles.is_deed(CHART, deed), False)
                self.assertIs(searches.is_view(CHART, (deed,)), False)
            for deed in (("give", "bob", name, ALL), ("vest", name, ALL)):
                self.assertIs(titles.is_deed(CHART, deed), False)
                self.assertIs(searches.is_view(CHART, (deed,)), name == "" and isinstance(name, str))
            self.assertIs(titles.is_passing(((name, name),)), False)

    def test_one_name_twice(self):
        for word in ("give", "swap", "whole", "yield"):
            self.assertIs(titles.is_deed(CHART, (word, "ann", "ann", ALL)), False)
            self.assertIs(titles.is_deed(CHART, (word, "ann", "anna", ALL)), True)

    def test_whole_where_it_is_not_let(self):
        whole, world = (("whole", "ann", "bob", ALL),), (((), 1, "ann"),)
        self.assertIs(titles.is_history(TINY, whole), True)
        self.assertIs(titles.is_making(TINY, (("ann", "bob"), ("bob", "bob")), ALL, whole), False)
        self.assertIs(titles.is_making(TINY, (("ann", "bob"), ("bob", "bob")), ALL, (("give",) + whole[0][1:],)), True)
        self.assertIs(searches.is_view(TINY, whole), False)
        self.assertIs(searches.is_view(TINY, (("whole", "ann", "", ALL),)), False)
        self.assertIs(searches.is_filling(TINY, (("give", "ann", "", ALL),), whole), False)
        self.assertIs(searches.is_unsure_paper(TINY, (("give", "ann", "cid", ALL),), ALL, ("ann",), (),
                                               (whole, world)), False)

    def test_is_view(self):
        views = ((("give", "ann", "", IN_A),), (("vest", "", ALL),), (("vest", "zed", ()), ("give", "zed", "", ALL)),
                 (("swap", "ann", "bob", ALL), ("way", IN_A, ALL)), ())
        self.look(lambda thing: searches.is_view(CHART, thing), lambda thing: is_fine_view(CHART, thing), views)
        for giver in ("a", "b", "zed", "zzzzzzzz"):
            self.assertIs(searches.is_view(CHART, (("give", giver, "", ALL),)), True)
        for deed in (("swap", "ann", "", ALL), ("swap", "", "ann", ALL), ("give", "", "ann", ALL),
                     ("give", "", "", ALL),
                     ("charge", "", ALL), ("lift", "", ALL), ("yield", "", "debt", ALL), ("way", "", ALL)):
            self.assertIs(searches.is_view(CHART, (deed,)), False)

    def test_is_filling(self):
        view = (("give", "ann", "", IN_A), ("vest", "", ALL), ("give", "bob", "ann", ()), ("way", IN_A, ALL))
        bases = ((("give", "ann", "bob", IN_A), ("vest", "ann", ALL)) + view[2:],
                 (("give", "ann", "zzzzzzzz", IN_A), ("vest", "zzzzzzzz", ALL)) + view[2:])
        self.look(lambda thing: searches.is_filling(CHART, view, thing),
                  lambda thing: is_fine_filling(CHART, view, thing), bases)
        self.assertIs(searches.is_filling(CHART, (), ()), True)
        self.assertIs(searches.is_filling(CHART, view[:1], (("give", "ann", "ann", IN_A),)), False)

    def test_is_passing(self):
        bases = ((), (("ann", "ann"),), (("ann", "bob"), ("bob", "cid"), ("cid", "bob")), (("a", "z"), ("z", "a")))
        self.look(titles.is_passing, is_fine_passing, bases, ODD + (("ann", "bob"), ("cid", "ann"), ["ann", "ann"]))
        names = sorted("".join(letters) for letters in product("abcdefghij", repeat=4))
        self.assertIs(titles.is_passing(tuple((name, names[0]) for name in names)), True)
        self.assertIs(titles.is_passing(tuple((name, "zz") for name in names)), False)

    def test_is_making(self):
        passing = (("ann", "bob"), ("bob", "ann"))

        def wanted(thing):
            if not is_fine_history(SMALL, thing, False):
                return False
            return all(plain_deeds.owner(thing, spot, first) == (dict(passing).get(first, first) if spot else first)
                       for spot in ((), ("a",)) for first in plain_deeds.firsts(thing, named=("ann", "bob")))

        bases = ((("swap", "ann", "bob", IN_A),), (("swap", "bob", "ann", IN_A), ("way", ALL, ())))
        self.look(lambda thing: titles.is_making(SMALL, passing, IN_A, thing), wanted, bases)

    def test_papers_of_one_point(self):
        history = (("give", "ann", "bob", IN_A),)
        odd = ODD + ((("a",), 1, "ann"), ((), 1, "cid"), (("b",), 1, "ann"))

        def wanted(thing):
            return is_one_point(CHART, thing) and plain.is_in(thing[0][0], IN_A) and thing[0][2] not in ("ann", "bob")

        self.look(lambda thing: titles.is_title_paper(CHART, history, "bob", IN_A, thing), wanted,
                  (((("a",), 1, "cid"),), ((("a", "b"), 10 ** 30, "dan"),)), odd)

        def parted(thing):
            return is_one_point(CHART, thing) and "a" in thing[0][0] and thing[0][2] == "ann"

        self.look(lambda thing: titles.is_parted_world(CHART, history, (), thing), parted,
                  (((("a",), 1, "ann"),), ((("a", "b"), 10 ** 30, "ann"),)), odd)

    def test_is_search(self):
        history = (("give", "ann", "bob", ALL), ("way", ALL, ALL), ("give", "bob", "cid", ALL),
                   ("give", "dan", "bob", ALL))
        odd = ODD + (2, 3, 4, -2, 10 ** 40, -10 ** 40, (0,))
        self.look(lambda thing: searches.is_search(CHART, history, ALL, ("ann",), thing),
                  lambda thing: is_fine_set(thing, range(4)) and {0, 2} <= set(thing),
                  ((0, 2), (0, 1, 2), (0, 1, 2, 3)), odd)
        self.look(lambda thing: searches.is_search(CHART, history, ALL, (), thing),
                  lambda thing: is_fine_set(thing, range(4)), ((), (1, 3)), odd)
        self.assertIs(searches.is_search(CHART, history, ALL, ("ann",), tuple(range(10 ** 5))), False)

    def test_is_unsure_paper(self):
        history = (("give", "ann", "bob", IN_A), ("give", "bob", "cid", ALL))
        view = (("give", "ann", "", IN_A), ("give", "bob", "cid", ALL))

        def wanted(thing):
            if type(thing) is not tuple or len(thing) != 2:
                return False
            other, world = thing
            if not is_fine_filling(SMALL, view, other) or not is_one_point(SMALL, world) or world[0][2] != "ann":
                return False
            return world[0][0] == ("a",) and plain_deeds.owner(other, ("a",), "ann") != "cid"

        base = ((("give", "ann", "dan", IN_A),) + history[1:], ((("a",), 7, "ann"),))
        self.look(lambda thing: searches.is_unsure_paper(SMALL, history, ALL, ("ann",), (1,), thing), wanted, (base,))


class Worlds(Looks):
    """Things that are WORLDS, or in which one stands."""

    ODD_POINTS = ODD + ((("a",), 1, "ann"), ((), 1, "bob"), (("b",), 1, "ann"), ((), 0, "ann"), ((), True, "ann"))

    def look_at_worlds(self, tells, wanted, bases):
        self.look(tells, lambda thing: is_fine_world(SMALL, thing) and wanted(thing), bases, self.ODD_POINTS)

    def bases(self):
        return (((("a",), 1, "ann"), ((), 5, "bob")), (((), 10 ** 40, "bob"), (("a",), 2, "ann"), ((), 1, "ann")))

    def test_ways(self):
        history, out = (("way", IN_A, ALL), ("give", "ann", "bob", IN_A)), ((("a", False),),)

        def there(world):
            return {(world[one][0], world[other][0]) for one, other in plain_deeds.end(history, world).ways}

        def barred(world):
            state = plain_deeds.end(history, world)
            return any(state.owners[one] != state.owners[other] and (one, other) not in state.ways
                       for one in range(len(world)) for other in range(len(world))
                       if world[one][0] == ("a",) and world[other][0] == ())

        self.look_at_worlds(lambda thing: ways.is_a_way(SMALL, history, IN_A, out, thing),
                            lambda world: (("a",), ()) in there(world),
                            (((("a",), 1, "cid"), ((), 5, "bob")), ((("a",), 1, "dan"), ((), 5, "cid"))))
        self.look_at_worlds(lambda thing: ways.is_no_go(SMALL, history, IN_A, out, thing), barred,
                            (((("a",), 1, "ann"), ((), 5, "ann")),
                             ((("a",), 1, "ann"), ((), 5, "ann"), ((), 1, "cid"))))
        self.look_at_worlds(lambda thing: ways.is_unlike_ways(SMALL, history, (), thing),
                            lambda world: bool(there(world)),
                            (((("a",), 1, "cid"), ((), 5, "bob")), ((("a",), 1, "dan"), (("a",), 5, "cid"))))

    def test_wrong_paper(self):
        history = (("give", "ann", "bob", IN_A), ("give", "bob", "cid", ALL))
        self.look_at_worlds(lambda thing: wrongs.is_wrong_paper(SMALL, history, (0,), thing),
                            lambda world: any(spot and first == "ann" for spot, _, first in world), self.bases())

    def test_doubt_paper(self):
        history = (("give", "ann", "bob", IN_A), ("give", "bob", "cid", ALL))

        def wanted(thing):
            if type(thing) is not tuple or len(thing) != 3 or not is_fine_world(SMALL, thing[0]):
                return False
            world, *both = thing
            if not all(is_fine_set(choice, (0, 1)) for choice in both):
                return False
            near, far = (plain_deeds.end([history[place] for place in choice], world).owners for choice in both)
            return near != far

        world = self.bases()[0]
        self.look(lambda thing: wrongs.is_doubt_paper(SMALL, history, (0, 1), thing), wanted,
                  ((world, (), (0,)), (world, (0, 1), (1,)), (world, (0, 1), (0,))),
                  self.ODD_POINTS + ((0,), (1, 0), [0]))

    def test_wholes(self):
        history = (("whole", "ann", "bob", IN_A), ("whole", "bob", "cid", ALL))
        for guess in ((), (0,), (0, 1)):
            self.look_at_worlds(lambda thing: wholes.is_world_for(SMALL, history, guess, thing),
                                lambda world: plain_deeds.end(history, world).let == guess,
                                ((), (((), 1, "bob"),), ((("a",), 1, "cid"), ((), 2, "dan")),
                                 (((), 5, "dan"), (("a",), 1, "ann"))))
        self.look_at_worlds(lambda thing: wholes.is_split_world(SMALL, history, history[1:], thing),
                            lambda world: plain_deeds.end(history, world).owners
                            != plain_deeds.end(history[1:], world).owners, self.bases())

    def test_very_many_points(self):
        crowd = tuple((("a",) if at % 3 else (), at + 1, "cid") for at in range(5000))
        history = (("whole", "cid", "bob", IN_A), ("give", "bob", "ann", ALL))
        self.assertIs(wholes.is_world_for(SMALL, history, (0,), crowd), True)
        self.assertIs(wholes.is_world_for(SMALL, history, (), crowd), False)
        self.assertIs(wholes.is_world_for(SMALL, history, (), crowd + ((("a",), 1, "dan"),)), True)
        self.assertIs(wholes.is_split_world(SMALL, history, history[1:], crowd), True)
        self.assertIs(wholes.is_split_world(SMALL, history, history[1:], crowd + ((("a",), 1, "dan"),)), False)
        self.assertIs(wrongs.is_wrong_paper(SMALL, history[1:], (0,), crowd), False)
        self.assertIs(wrongs.is_wrong_paper(SMALL, history[1:], (0,), crowd + (((), 1, "bob"),)), True)
        self.assertIs(wrongs.is_doubt_paper(SMALL, history[1:], (0,), (crowd + (((), 1, "bob"),), (), (0,))), True)
        self.assertIs(wrongs.is_doubt_paper(SMALL, history[1:], (0,), (crowd, (), (0,))), False)
        self.assertIs(titles.is_title_paper(SMALL, (), "ann", ALL, crowd), False)


class Orders(Looks):
    HISTORY = (("vest", "ann", ALL), ("vest", "bob", ALL), ("vest", "cid", ALL))
    NUMBERS = ODD + (2, 3, -2, (0, 1), (1, 2), [0, 1], (0, 1, 2), (0, 10 ** 40))

    def test_is_waits(self):
        def wanted(thing):
            return (type(thing) is tuple
                    and all(is_fine_set(pair, range(3)) and len(pair) == 2 for pair in thing)
                    and list(thing) == sorted(set(thing)))

        self.look(lambda thing: orders.is_waits(self.HISTORY, thing), wanted,
                  ((), ((0, 1),), ((0, 1), (1, 2)), ((0, 1), (0, 2), (1, 2))), self.NUMBERS)
        self.assertIs(orders.is_waits((), ()), True)
        self.assertIs(orders.is_waits(self.HISTORY[:1], ((0, 1),)), False)

    def test_is_order(self):
        for waits in ((), ((0, 2),), ((0, 1), (1, 2))):
            self.look(lambda thing: orders.is_order(self.HISTORY, waits, thing),
                      lambda thing: is_fine_run(self.HISTORY, waits, thing) and len(thing) == 3,
                      ((0, 1, 2), (1, 0, 2), (2, 1, 0)), self.NUMBERS)
        self.assertIs(orders.is_order((), (), ()), True)
        self.assertIs(orders.is_order(self.HISTORY, (), tuple(range(10 ** 5))), False)

    def test_papers(self):
        waits, history = ((0, 2),), self.HISTORY

        def wanted(thing):
            if type(thing) is not tuple or len(thing) != 3 or not is_fine_world(SMALL, thing[0]):
                return False
            world, one, other = thing
            if not is_fine_run(history, waits, one) or not is_fine_run(history, waits, other):
                return False
            return set(one) == set(other) and bool(world) and one[-1:] != other[-1:]

        world = ((("a",), 3, "dan"),)
        for ended in (False, True):
            bases = ((world, (0, 1, 2), (0, 2, 1)), (world * 2, (1, 0, 2), (0, 2, 1)), (world, (0, 1), (1, 0)))
            tells = orders.is_end_paper if ended else orders.is_waits_paper
            self.look(lambda thing: tells(SMALL, history, waits, thing),
                      lambda thing: wanted(thing) and (not ended or len(thing[1]) == 3), bases,
                      self.NUMBERS + (((), 1, "ann"),))


class Rounds(Looks):
    def test_is_charge_round(self):
        history = (("charge", "debt", ALL), ("charge", "loan", ALL), ("charge", "rent", ALL),
                   ("yield", "debt", "rent", IN_A))

        def wanted(thing):
            if type(thing) is not tuple or not all(is_fine_name(name) for name in thing):
                return False
            rows = [plain_deeds.end(history, ((spot, 1, "ann"),)).rows[0] for spot in plain.let(CHART)]
            return len(thing) > 1 and len(set(thing)) == len(thing) and all(
                any(one in row and other in row[row.index(one):] and one != other for row in rows)
                for one, other in zip(thing, thing[1:] + thing[:1]))

        self.look(lambda thing: charges.is_charge_round(CHART, history, thing), wanted,
                  (("debt", "loan"), ("loan", "rent", "debt"), ("debt", "rent")), ODD + ("debt", "loan", "rent"))
        self.assertIs(charges.is_charge_round(CHART, history, ("debt", "loan") * 10 ** 4), False)


class Great(unittest.TestCase):
    def test_very_many_deeds(self):
        chart = (("a",), ())
        history = (("swap", "ann", "bob", IN_A), ("give", "ann", "bob", ())) * 2001
        self.assertIs(titles.is_history(chart, history), True)
        self.assertIs(titles.is_history(chart, history + (("swap", "ann", "ann", IN_A),)), False)
        self.assertIs(titles.is_making(chart, (("ann", "bob"), ("bob", "ann")), IN_A, history), True)
        self.assertIs(titles.is_making(chart, (("ann", "bob"), ("bob", "ann")), IN_A, history[:-2]), False)
        self.assertIs(searches.is_view(chart, history), True)
        self.assertIs(searches.is_view(chart, history + (("vest", "", IN_A),)), True)
        self.assertIs(searches.is_filling(chart, history[:1], history), False)

    def test_very_many_people(self):
        names = sorted("".join(letters) for letters in product("abcdefghij", repeat=3))
        history = tuple(("give", one, other, ALL) for one, other in zip(names, names[1:]))
        self.assertIs(titles.is_history(TINY, history), True)
        self.assertIs(titles.is_making(TINY, (), ALL, history), False)
        self.assertIs(titles.is_making(TINY, (("ann", "ann"),), (), ()), True)
        passing = tuple((name, names[-1]) for name in names)
        self.assertIs(titles.is_making(TINY, passing, ALL, history), True)
        self.assertIs(titles.is_making(TINY, passing, ALL, history[1:]), False)

    def test_all_conditions(self):
        areas = grounds.areas_of(4)
        cut = plain.all_conditions(areas)
        for deed in (("way", cut, cut), ("vest", "ann", cut), ("lift", "ann", cut)):
            self.assertIs(titles.is_deed((areas, ()), deed), True)
            self.assertIs(titles.is_deed((areas[1:], ()), deed), False)
            self.assertIs(titles.is_deed((areas, ()), deed[:-1] + (cut[::-1],)), False)
            self.assertIs(titles.is_deed((areas, ()), deed[:-1] + (list(cut),)), False)


if __name__ == "__main__":
    unittest.main()
