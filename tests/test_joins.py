"""Joins beside a plain look: start, one and other played SPOT by SPOT and first owner by first owner."""

import unittest
from itertools import combinations, permutations, product
from random import Random

from landpoints import joins
from landpoints.errors import Unfit
from tests import histories, plain, plain_deeds

TITLES = ("give", "give", "give", "vest", "swap")
PEOPLE = ("ann", "bob", "cid")


def owners(start, one, other, spot, first):
    return (plain_deeds.owner(start, spot, first), plain_deeds.owner(start + one, spot, first),
            plain_deeds.owner(start + other, spot, first))


def joined(base, near, far):
    if near == base:
        return far
    if far == base or far == near:
        return near
    return None


def firsts(*books):
    """People of the DEEDS and three strangers, some of those who stand in no DEED but have the NAMES of others."""
    return plain_deeds.firsts(*books, named=("a", "ann"))


def land(chart, start, one, other, tells):
    """The LAND of the LET SPOTS of which it is so for some first owner."""
    return plain_deeds.spots_where(chart, lambda spot: any(tells(*owners(start, one, other, spot, first))
                                                           for first in firsts(start, one, other)))


def clashes(chart, start, one, other):
    return land(chart, start, one, other, lambda *three: joined(*three) is None)


def can_be_written(chart, start, one, other):
    """By the guarantee, SPOT by SPOT."""
    for spot in plain.let(chart):
        goals, strangers_stay = {}, True
        for first in firsts(start, one, other):
            three = owners(start, one, other, spot, first)
            goal = joined(*three) or three[1]
            if goals.setdefault(three[1], goal) != goal:
                return False
            if three[1] in plain_deeds.STRANGERS and goal != three[1]:
                strangers_stay = False
        if not strangers_stay and len(set(goals.values())) > 1:
            return False
    return True


def writes(chart, start, one, other, deeds):
    for spot in plain.let(chart):
        for first in firsts(start, one, other, deeds):
            three = owners(start, one, other, spot, first)
            if plain_deeds.owner(start + one + deeds, spot, first) != (joined(*three) or three[1]):
                return False
    return True


def some_deeds(chosen, chart, most=3, people=PEOPLE):
    cuts = histories.cuts_for(chart[0], chosen.randint(1, 5)) + [((),)] * 4
    return tuple(histories.some_deed(chosen, chosen.choice(TITLES), cuts, people)
                 for _ in range(chosen.randint(0, most)))


def cases(name, many, most=2, longest=3):
    """MAPS, and start, one and other of none to three title deeds each; in each fourth one people have short NAMES."""
    chosen = Random(name)
    found = [(((), ()), (), (), ()), (((), ((),)), (), (("vest", "ann", ((),)),), (("vest", "bob", ((),)),)),
             (((), ()), (), (("vest", "ann", ((),)),), (("vest", "bob", ((),)),))]
    for at in range(many):
        chart = histories.some_charts(chosen, most)
        people = histories.SHORT[:3] if at % 4 == 3 else PEOPLE
        found.append((chart, *(some_deeds(chosen, chart, longest, people) for _ in range(3))))
    return found


class Lands(unittest.TestCase):
    def test_lands(self):
        some = [0, 0, 0, 0]
        for chart, start, one, other in cases("lands", 500):
            turned = land(chart, start, one, other, lambda base, near, far: near != base)
            parting = land(chart, start, one, other, lambda base, near, far: near != far)
            clash = clashes(chart, start, one, other)
            row = start + one + other
            unlike = plain_deeds.spots_where(chart, lambda spot: any(
                joined(*owners(start, one, other, spot, first)) != plain_deeds.owner(row, spot, first)
                for first in firsts(row)))
            self.assertEqual(joins.turned_land(chart, start, one), turned)
            self.assertEqual(joins.parting_land(chart, start, one, other), parting)
            self.assertEqual(joins.clash_land(chart, start, one, other), clash)
            self.assertEqual(joins.unlike_behind(chart, start, one, other), unlike)
            self.assertIs(joins.are_joinable(chart, start, one, other), clash == ())
            for at, told in enumerate((turned, parting, clash, unlike)):
                some[at] += 0 < len(told) < len(plain.let(chart))
        self.assertGreater(min(some), 15, some)

    def test_points(self):
        chosen = Random("points")
        none = 0
        for chart, start, one, other in cases("points", 300):
            for spot in plain.let(chart):
                for first in firsts(start, one, other):
                    wanted = joined(*owners(start, one, other, spot, first))
                    self.assertEqual(joins.joined_owner(chart, start, one, other, spot, first), wanted)
                    none += wanted is None
            world = histories.some_world(chosen, chart, firsts(start, one, other), 6)
            told = joins.joined_in(chart, start, one, other, world)
            self.assertIsInstance(told, list)
            self.assertEqual(told, [joined(*owners(start, one, other, spot, first)) for spot, _, first in world])
        self.assertGreater(none, 100)

    def test_papers(self):
        found = {True: 0, False: 0}
        for chart, start, one, other in cases("papers", 300):
            clash = clashes(chart, start, one, other)
            paper = joins.clash_paper(chart, start, one, other)
            self.assertEqual(paper is None, clash == ())
            self.assertIs(joins.is_clash_paper(chart, start, one, other, paper), paper is not None)
            if paper is not None:
                ((spot, size, first),) = paper
                self.assertTrue(spot in clash and size > 0)
                self.assertIsNone(joined(*owners(start, one, other, spot, first)))
                self.assertIs(joins.is_clash_paper(chart, start, one, other, paper * 2), False)
            for spot in plain.let(chart):
                for first in firsts(start, one, other):
                    wanted = joined(*owners(start, one, other, spot, first)) is None
                    self.assertIs(joins.is_clash_paper(chart, start, one, other, ((spot, 10 ** 30, first),)), wanted)
                    found[wanted] += 1
            self.assertIs(joins.is_clash_paper(chart, start, one, other, ()), False)
        self.assertGreater(min(found.values()), 100)

    def test_both_books_change_places(self):
        """The joined owner is the same, whichever book is the one, whichever the other."""
        for chart, start, one, other in cases("places", 200):
            for spot in plain.let(chart):
                for first in firsts(start, one, other):
                    self.assertEqual(joins.joined_owner(chart, start, one, other, spot, first),
                                     joins.joined_owner(chart, start, other, one, spot, first))

    def test_a_book_and_itself_and_an_empty_one(self):
        for chart, start, one, _ in cases("itself", 200):
            world = tuple((spot, 1, first) for spot in plain.let(chart) for first in firsts(start, one))
            behind = list(plain_deeds.end(start + one, world).owners)
            for books in ((one, one), (one, ()), ((), one)):
                self.assertIs(joins.are_joinable(chart, start, *books), True)
                self.assertEqual(joins.joined_in(chart, start, *books, world), behind)
                self.assertEqual(joins.clash_land(chart, start, *books), ())
            self.assertEqual(joins.unlike_behind(chart, start, one, ()), ())
            self.assertEqual(joins.unlike_behind(chart, start, (), one), ())
            self.assertEqual(joins.parting_land(chart, start, one, one), ())
            self.assertEqual(joins.turned_land(chart, start, ()), ())


class Lots(unittest.TestCase):
    def test_beside_all_sets(self):
        chosen = Random("lots")
        found = set()
        for chart, start, one, other in cases("lots", 200, 2, 2):
            books = (one, other, *(some_deeds(chosen, chart, 2) for _ in range(chosen.randint(0, 3))))
            books = tuple(chosen.sample(books, len(books)))[:chosen.randint(0, 5)]
            apart = {(near, far) for near, far in combinations(range(len(books)), 2)
                     if clashes(chart, start, books[near], books[far])}
            fit = [part for part in plain.subsets(range(len(books))) if not apart & set(combinations(part, 2))]
            wanted = [part for part in fit if not any(set(part) < set(wider) for wider in fit)]
            told = joins.joinable_lots(chart, start, books)
            self.assertEqual(told, sorted(wanted))
            self.assertIsInstance(told, list)
            found.add((len(books), len(told)))
        self.assertLessEqual({(0, 1), (1, 1), (2, 2), (3, 1), (3, 2), (4, 2), (5, 2)}, found)
        self.assertGreater(max(many for _, many in found), 2)

    def test_no_books(self):
        self.assertEqual(joins.joinable_lots((("a",), ()), (("vest", "ann", ((),)),), ()), [()])

    def test_books_that_can_be_joined_two_by_two(self):
        """The guarantee: in whatever order, to the same owners; told here owner by owner."""
        chosen = Random("two by two")
        many = 0
        for chart, start, one, other in cases("two by two", 400, 2, 2):
            books = (one, other, some_deeds(chosen, chart, 2))
            if joins.joinable_lots(chart, start, books) != [(0, 1, 2)]:
                continue
            for spot in plain.let(chart):
                for first in firsts(start, *books):
                    base = plain_deeds.owner(start, spot, first)
                    ends = [plain_deeds.owner(start + book, spot, first) for book in books]
                    told = {joined(base, joined(base, near, far), last) for near, far, last in permutations(ends)}
                    self.assertEqual(len(told), 1)
                    self.assertNotIn(None, told)
                    many += len(set(ends)) > 1
        self.assertGreater(many, 100)


class Written(unittest.TestCase):
    def test_can_be_written(self):
        found = {True: 0, False: 0}
        for chart, start, one, other in cases("written", 500):
            wanted = can_be_written(chart, start, one, other)
            self.assertIs(joins.can_be_written(chart, start, one, other), wanted)
            told = joins.written_join(chart, start, one, other)
            self.assertEqual(told is not None, wanted)
            if told is not None:
                self.assertTrue(writes(chart, start, one, other, told))
                self.assertLessEqual(plain_deeds.words(told), {"give", "vest", "swap"})
            self.assertIs(joins.is_written_join(chart, start, one, other, told), wanted)
            found[wanted] += 1
        self.assertGreater(min(found.values()), 50, found)

    def test_beside_all_histories(self):
        """On a MAP without AREAS, where three people are turned by three DEEDS at the most."""
        all_land = ((),)
        deeds = ([("vest", name, all_land) for name in PEOPLE]
                 + [("give", *pair, all_land) for pair in permutations(PEOPLE, 2)]
                 + [("swap", *pair, all_land) for pair in combinations(PEOPLE, 2)])
        rows = [row for many in range(4) for row in product(deeds, repeat=many)]
        told = {}
        for row in rows:
            told.setdefault(tuple(plain_deeds.owner(row, (), first) for first in PEOPLE + ("xan",)), row)
        chosen = Random("all")
        found = {True: 0, False: 0}
        for _ in range(150):
            start, one, other = (tuple(chosen.choice(deeds) for _ in range(chosen.randint(0, 3))) for _ in range(3))
            wanted = any(writes(((), ()), start, one, other, row) for row in told.values())
            self.assertIs(joins.can_be_written(((), ()), start, one, other), wanted)
            found[wanted] += 1
        self.assertGreater(min(found.values()), 20, found)

    def test_is_written_join(self):
        chosen = Random("is")
        found = {True: 0, False: 0}
        for chart, start, one, other in cases("is", 500, 1, 2):
            for row in (some_deeds(chosen, chart, 2), other, other + one, ()):
                wanted = writes(chart, start, one, other, row)
                self.assertIs(joins.is_written_join(chart, start, one, other, row), wanted)
                found[wanted] += 1
            written = joins.written_join(chart, start, one, other)
            if written is not None:
                for more in ((("give", "eve", "fay", ((),)),), (("swap", "eve", "fay", ()),),
                             (("vest", "eve", ((),)),)):
                    wanted = writes(chart, start, one, other, written + more)
                    self.assertIs(joins.is_written_join(chart, start, one, other, written + more), wanted)
        self.assertGreater(min(found.values()), 100, found)

    def test_only_title_deeds(self):
        chart, all_land = ((), ()), ((),)
        one, other = (), (("give", "ann", "bob", all_land),)
        self.assertIs(joins.is_written_join(chart, (), one, other, other), True)
        for more in (("way", all_land, all_land), ("end", (), ()), ("charge", "debt", all_land), ("lift", "debt", ()),
                     ("yield", "debt", "loan", ()), ("whole", "ann", "bob", ())):
            self.assertIs(joins.is_written_join(chart, (), one, other, other + (more,)), False)
        self.assertIs(joins.is_written_join(chart, (), one, other, (("whole", "ann", "bob", all_land),)), False)
        self.assertIs(joins.is_written_join(chart, (), one, other, [other[0]]), False)

    def test_strangers(self):
        """All land goes to one person by a "vest" alone, and only where nobody's is to be another's."""
        chart, all_land = ((), ()), ((),)
        vest, give = (("vest", "ann", all_land),), (("give", "bob", "cid", all_land),)
        self.assertIs(joins.can_be_written(chart, (), (), vest), True)
        self.assertEqual(joins.written_join(chart, (), (), vest), vest)
        # What was bob's clashes, so it is to stay cid's; all other land is to be ann's.
        self.assertIs(joins.can_be_written(chart, (), give, vest), False)
        self.assertIsNone(joins.written_join(chart, (), give, vest))
        self.assertIs(joins.can_be_written(chart, (), vest, give), True)
        # By the one book all is ann's, and what was bob's is to be so, too.
        self.assertEqual(joins.written_join(chart, (), vest, ()), ())

    def test_a_round_of_people(self):
        chart, all_land = (("a",), ()), ((),)
        ring = (("swap", "ann", "bob", all_land), ("swap", "bob", "cid", ((("a", True),),)),
                ("give", "dan", "ann", all_land))
        told = joins.written_join(chart, (), (), ring)
        self.assertTrue(writes(chart, (), (), ring, told))
        self.assertIs(joins.is_written_join(chart, (), (), ring, ring), True)

    def test_very_many_deeds_and_people(self):
        chart, all_land = (("a",), ()), ((),)
        other = (("give", "ann", "bob", all_land),)
        names = ["n" + "".join(letters) for letters in product("abcdefghij", repeat=3)]
        there = tuple(("give", name, "zed", all_land) for name in names)
        swaps = tuple(("swap", near, far, all_land) for near, far in zip(names, names[1:]))
        self.assertIs(joins.is_written_join(chart, (), (), other, swaps + other + swaps[::-1]), True)
        self.assertIs(joins.is_written_join(chart, (), (), other, swaps + other + swaps[::-1] + there[:1]), False)
        self.assertIs(joins.is_written_join(chart, (), (), other, other + there), False)


class Errors(unittest.TestCase):
    def test_unfit(self):
        chart = (("a", "b"), ((("a", True), ("b", True)),))
        one, other = (("give", "ann", "bob", ((),)),), (("give", "ann", "cid", ((),)),)
        for spot in (("a", "b"), ("b", "a"), ("a", "a"), ("c",), ("",), ("a", "c"), ["a", "b"], ("A",), ("ab",)):
            with self.assertRaises(Unfit) as caught:
                joins.joined_owner(chart, (), one, other, spot, "ann")
            self.assertEqual((type(caught.exception), vars(caught.exception)), (Unfit, {}))
        for spot in ((), ("a",), ("b",), ["b"], []):
            self.assertIsNone(joins.joined_owner(chart, (), one, other, spot, "ann"))
            self.assertEqual(joins.joined_owner(chart, (), one, other, spot, "bob"), "bob")
        with self.assertRaises(Unfit):
            joins.joined_owner(((), ((),)), (), (), (), (), "ann")

    def test_none(self):
        bare = (("a",), ((),))
        one, other = (("vest", "ann", ((),)),), (("vest", "bob", ((),)),)
        self.assertIsNone(joins.clash_paper(bare, (), one, other))
        self.assertIs(joins.are_joinable(bare, (), one, other), True)
        self.assertEqual(joins.written_join(bare, (), one, other), ())
        self.assertEqual(joins.joined_in(bare, (), one, other, ()), [])


if __name__ == "__main__":
    unittest.main()
