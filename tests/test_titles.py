"""Titles beside a plain look: HISTORIES played DEED by DEED, for all LET SPOTS and many first owners."""

import unittest
from itertools import combinations, permutations, product
from random import Random

from landpoints import titles
from landpoints.errors import CanNot
from tests import grounds, histories, plain, plain_deeds

PEOPLE = ("a", "ann", "bob", "cid", "zed")
CASES = histories.cases("titles", 150) + histories.cases("more titles", 150, 3, 4, histories.TITLES)


def is_passed(chart, history, passing, cut):
    """Whether the HISTORY makes the PASSING on the CUT, by the definition."""
    wanted = dict(passing)
    for spot in plain.let(chart):
        for first in plain_deeds.firsts(history, named=wanted):
            goal = wanted.get(first, first) if plain.is_in(spot, cut) else first
            if plain_deeds.owner(history, spot, first) != goal:
                return False
    return True


class Titles(unittest.TestCase):
    def test_owners(self):
        for chart, history in CASES:
            for spot in plain.subsets(chart[0]):
                for first in plain_deeds.firsts(history):
                    wanted = plain_deeds.owners(history, spot, first)
                    self.assertEqual(titles.owners_along(history, spot, first), wanted)
                    self.assertEqual(titles.owner_behind(history, spot, first), wanted[-1])

    def test_first_owners(self):
        for chart, history in CASES:
            self.assertEqual(titles.people_in(history), plain_deeds.people(history))
            for spot in plain.subsets(chart[0]):
                for person in PEOPLE:
                    asked = sorted({*plain_deeds.people(history), person})
                    wanted = tuple(first for first in asked if plain_deeds.owner(history, spot, first) == person)
                    self.assertEqual(titles.first_owners(history, spot, person), wanted)

    def test_sure_and_maybe(self):
        for chart, history in CASES:
            told = plain_deeds.firsts(history, named=PEOPLE)
            ends = {spot: {plain_deeds.owner(history, spot, first) for first in told} for spot in plain.let(chart)}
            for person in PEOPLE:
                self.assertEqual(titles.sure_land(chart, history, person),
                                 plain_deeds.spots_where(chart, lambda spot: ends[spot] == {person}))
                self.assertEqual(titles.maybe_land(chart, history, person),
                                 plain_deeds.spots_where(chart, lambda spot: person in ends[spot]))
            self.assertEqual(titles.unsettled_land(chart, history),
                             plain_deeds.spots_where(chart, lambda spot: len(ends[spot]) > 1))
            for first, owner in product(PEOPLE, PEOPLE):
                wanted = plain_deeds.spots_where(chart, lambda spot: plain_deeds.owner(history, spot, first) == owner)
                self.assertEqual(titles.passed_land(chart, history, first, owner), wanted)

    def test_surely_has(self):
        none = 0
        for chart, history in CASES:
            told = plain_deeds.firsts(history, named=PEOPLE)
            for cut, person in product(grounds.some_cuts(chart[0], 3, 2), PEOPLE[::2]):
                papers = [world for world in plain_deeds.worlds(chart, 1, told) if plain.is_in(world[0][0], cut)
                          and plain_deeds.end(history, world).owners[0] != person]
                self.assertIs(titles.surely_has(chart, history, person, cut), not papers)
                if not papers:
                    none += 1
                    with self.assertRaises(CanNot):
                        titles.title_paper(chart, history, person, cut)
                    continue
                paper = titles.title_paper(chart, history, person, cut)
                self.assertTrue(plain.is_in(paper[0][0], cut) and paper[0][0] in plain.let(chart))
                self.assertNotEqual(plain_deeds.end(history, paper).owners[0], person)
                self.assertIs(titles.is_title_paper(chart, history, person, cut, paper), True)
                for world in plain_deeds.worlds(chart, 1, told[:3]):
                    self.assertIs(titles.is_title_paper(chart, history, person, cut, world), world in papers)
        self.assertGreater(none, 100)

    def test_not_one_point_is_no_paper(self):
        chart, history = (("a",), ()), (("give", "ann", "bob", ((),)),)
        point = (("a",), 1, "ann")
        for world, wanted in (((), False), ((point,), True), ((point, point), False)):
            self.assertIs(titles.is_title_paper(chart, history, "ann", ((),), world), wanted)
            self.assertIs(titles.is_parted_world(chart, history, (), world), wanted)

    def test_felt_and_idle(self):
        for chart, history in CASES:
            told = plain_deeds.firsts(history)
            idle = []
            for place, deed in enumerate(history):
                felt = plain_deeds.spots_where(chart, lambda spot: any(
                    row[place] != row[place + 1]
                    for row in (plain_deeds.owners(history, spot, first) for first in told)))
                self.assertEqual(titles.felt_land(chart, history, place), felt)
                if not felt and deed[0] in ("give", "vest", "swap"):
                    idle.append(place)
                wanted = plain_deeds.parted(chart, history, plain_deeds.left(history, (place,)))
                self.assertEqual(titles.wanted_land(chart, history, place), wanted)
            self.assertEqual(titles.idle_deeds(chart, history), tuple(idle))

    def test_parted(self):
        chosen = Random("parted")
        for chart, one in CASES:
            for other in (one[1:], one[::-1], histories.some_history(chosen, chart[0], 4)):
                land = plain_deeds.parted(chart, one, other)
                self.assertEqual(titles.parted_land(chart, one, other), land)
                self.assertIs(titles.same_titles(chart, one, other), land == ())
                told = plain_deeds.firsts(one, other)
                papers = [world for world in plain_deeds.worlds(chart, 1, told)
                          if plain_deeds.end(one, world).owners != plain_deeds.end(other, world).owners]
                self.assertEqual(land == (), not papers)
                for world in plain_deeds.worlds(chart, 1, told[:3]):
                    self.assertIs(titles.is_parted_world(chart, one, other, world), world in papers)
                if not papers:
                    with self.assertRaises(CanNot):
                        titles.parted_world(chart, one, other)
                    continue
                world = titles.parted_world(chart, one, other)
                self.assertEqual(len(world), 1)
                self.assertIn(world[0][0], land)
                self.assertNotEqual(plain_deeds.end(one, world).owners, plain_deeds.end(other, world).owners)
                self.assertIs(titles.is_parted_world(chart, one, other, world), True)

    def test_fewest_deeds(self):
        for chart, history in CASES:
            fit = []
            for places in plain.subsets(tuple(range(len(history)))):
                rest = tuple(place for place in range(len(history)) if place not in places)
                same = plain_deeds.parted(chart, history, plain_deeds.left(history, rest)) == ()
                self.assertIs(titles.can_go(chart, history, rest), same)
                if same:
                    fit.append((len(places), places))
            self.assertEqual(titles.fewest_deeds(chart, history), min(fit)[1])

    def test_eight_deeds(self):
        for chart, history in histories.cases("eight", 12, 2, 8, histories.TITLES, PEOPLE):
            wanted = titles.fewest_deeds(chart, history)
            kept = tuple(history[place] for place in wanted)
            self.assertEqual(plain_deeds.parted(chart, history, kept), ())
            for places in combinations(range(len(history)), max(len(wanted) - 1, 0)):
                fewer = tuple(history[place] for place in places)
                self.assertTrue(kept == () or plain_deeds.parted(chart, history, fewer))


class Strangers(unittest.TestCase):
    def history(self, names):
        return tuple(("vest", name, ()) for name in names)

    def test_stranger_to(self):
        letters = "abcdefghijklmnopqrstuvwxyz"
        for names, wanted in (((), "a"), (("b",), "a"), (("a",), "b"), (("ann", "bob"), "a"), (("c", "a"), "b"),
                              (tuple(letters[:-1]), "z"), (tuple(letters), "aa"), (tuple(letters) + ("aa", "ac"), "ab"),
                              (tuple(letters) + tuple("a" + letter for letter in letters), "ba")):
            self.assertEqual(titles.stranger_to(self.history(names)), wanted)
            self.assertEqual(titles.people_in(self.history(names)), tuple(sorted(names)))

    def test_all_names_of_two_letters(self):
        letters = "abcdefghijklmnopqrstuvwxyz"
        names = tuple(letters) + tuple(one + other for one in letters for other in letters)
        self.assertEqual(titles.stranger_to(self.history(names)), "aaa")
        self.assertEqual(titles.stranger_to(self.history(name for name in names if name != "zz")), "zz")

    def test_charges_and_areas_are_no_people(self):
        history = (("charge", "a", ((("b", True),),)), ("lift", "b", ()), ("yield", "c", "d", ()), ("way", (), ((),)))
        self.assertEqual(titles.people_in(history), ())
        self.assertEqual(titles.stranger_to(history), "a")

    def test_people_of_whole_deeds(self):
        history = (("whole", "a", "c", ()), ("swap", "c", "b", ()), ("give", "e", "a", ()))
        self.assertEqual(titles.people_in(history), ("a", "b", "c", "e"))
        self.assertEqual(titles.stranger_to(history), "d")


class Passings(unittest.TestCase):
    def passings(self, most):
        for many in range(most + 1):
            names = ("ann", "bob", "cid", "dan", "eve", "fay")[:many]
            for chosen in product(names, repeat=many):
                yield tuple(zip(names, chosen))

    def pieces(self, passing):
        groups = [{name} for name, _ in passing]
        for pair in passing:
            joined = [group for group in groups if group & set(pair)]
            groups = [group for group in groups if group not in joined] + [set().union(*joined)]
        return len(groups)

    def test_making(self):
        for passing in self.passings(4):
            self.assertIs(titles.is_passing(passing), True)
            for chart, cut in (((("a",), ()), ((("a", True),),)), (((), ()), ((),)), ((("a",), ()), ()),
                               ((("a",), ((("a", True),),)), ((("a", True),),))):
                fewest = len(passing) - self.pieces(passing) if plain.land(chart, cut) else 0
                self.assertEqual(titles.fewest_to_make(chart, passing, cut), fewest)
                history = titles.making(chart, passing, cut)
                self.assertEqual(len(history), fewest)
                self.assertIs(titles.is_history(chart, history), True)
                self.assertTrue(is_passed(chart, history, passing, cut))
                self.assertIs(titles.makes(chart, history, passing, cut), True)
                self.assertIs(titles.is_making(chart, passing, cut, history), True)
                if fewest:
                    self.assertIs(titles.makes(chart, history[1:], passing, cut), False)
                    self.assertIs(titles.is_making(chart, passing, cut, history[1:]), False)

    def test_six_persons(self):
        chosen, chart = Random("six"), (("a", "b"), ())
        names = ("ann", "bob", "cid", "dan", "eve", "fay")
        rows = [tuple(zip(names, [chosen.choice(names) for _ in names])) for _ in range(60)]
        rows += [tuple(zip(names, order)) for order in list(permutations(names))[::31]]
        for passing in rows:
            history = titles.making(chart, passing, ((("b", False),),))
            self.assertEqual(len(history), 6 - self.pieces(passing))
            self.assertEqual(titles.fewest_to_make(chart, passing, ((("b", False),),)), len(history))
            self.assertTrue(is_passed(chart, history, passing, ((("b", False),),)))

    def test_no_fewer_deeds_make_it(self):
        """All PASSINGS of three persons beside all that one or two DEEDS lead to."""
        chart, cut = ((), ()), ((),)
        names = ("ann", "bob", "cid")
        deeds = [("give", one, other, cut) for one, other in permutations(names, 2)]
        deeds += [("swap", one, other, cut) for one, other in combinations(names, 2)]
        deeds += [("vest", one, cut) for one in names]
        for passing in self.passings(3):
            found = [many for many in range(3) for history in product(deeds, repeat=many)
                     if is_passed(chart, history, passing, cut)]
            self.assertEqual(titles.fewest_to_make(chart, passing, cut), min(found))

    def test_makes(self):
        seen = set()
        for chart, history in histories.cases("makes", 500, 1, 3, ("give", "swap", "swap", "vest", "way", "charge")):
            for passing in list(self.passings(3))[::3]:
                for cut in ((), ((),), ((("a", True),),) if chart[0] else ()):
                    wanted = is_passed(chart, history, passing, cut)
                    self.assertIs(titles.makes(chart, history, passing, cut), wanted)
                    self.assertIs(titles.is_making(chart, passing, cut, history), wanted)
                    seen.add(wanted)
        self.assertEqual(seen, {True, False})

    def test_one_who_stays_is_a_piece(self):
        chart = ((), ())
        self.assertEqual(titles.fewest_to_make(chart, (("ann", "ann"), ("bob", "bob")), ((),)), 0)
        self.assertEqual(titles.making(chart, (("ann", "ann"),), ((),)), ())
        self.assertEqual(titles.making(chart, (), ((),)), ())
        self.assertIs(titles.makes(chart, (("vest", "ann", ((),)),), (("ann", "ann"),), ((),)), False)
        self.assertIs(titles.makes(chart, (("vest", "ann", ()),), (("ann", "ann"),), ((),)), True)


if __name__ == "__main__":
    unittest.main()
