"""The errors of the functions on DEEDS: which one, with which values, which one first, for which of several numbers."""

import unittest

from landpoints import orders, searches, titles, ways, wholes, wrongs
from landpoints.errors import CanNot, NoDeed, NoPoint, Unfit
from tests.test_raises import Raises

ALL, IN_A = ((),), ((("a", True),),)
CHART, BARE = (("a",), ()), (("a",), ((),))
HISTORY = (("give", "ann", "bob", ALL), ("vest", "cid", IN_A), ("way", ALL, IN_A))
WORLD = (((), 1, "ann"), (("a",), 1, "bob"))
# Not from the end either.
NO_PLACES = (3, 4, -1, -3, 10 ** 30, -10 ** 30)
# A set of numbers, and the first of them that is no place.
NO_SETS = (((3,), 3), ((-1,), -1), ((0, 3), 3), ((-2, -1, 0), -2), ((0, 1, 2, 5, 6), 5), ((-10 ** 30, 0, 9), -10 ** 30),
           ([2, 3], 3))
NO_THINGS = (None, True, 0, "", (), [], ((),), WORLD)


class DeedRaises(Raises):
    def no_deed(self, place, function, *values):
        self.raises(NoDeed, {"place": place}, function, *values)

    def unfit(self, function, *values):
        self.raises(Unfit, {}, function, *values)

    def can_not(self, function, *values):
        self.raises(CanNot, {}, function, *values)


class OfTitles(DeedRaises):
    def test_no_deed(self):
        for place in NO_PLACES:
            self.no_deed(place, titles.felt_land, CHART, HISTORY, place)
            self.no_deed(place, titles.wanted_land, CHART, HISTORY, place)
        for place in (0, -1, 1):
            self.no_deed(place, titles.felt_land, ((), ()), (), place)
            self.no_deed(place, titles.wanted_land, BARE, (), place)
        for places, first in NO_SETS:
            self.no_deed(first, titles.can_go, CHART, HISTORY, places)
            self.no_deed(first, titles.can_go, BARE, HISTORY, places)
        self.assertIs(titles.can_go(CHART, (), ()), True)

    def test_can_not(self):
        self.can_not(titles.title_paper, CHART, HISTORY, "cid", IN_A)
        self.can_not(titles.title_paper, CHART, HISTORY, "ann", ())
        self.can_not(titles.title_paper, BARE, HISTORY, "ann", ALL)
        self.can_not(titles.parted_world, CHART, HISTORY, HISTORY[:2])
        self.can_not(titles.parted_world, BARE, HISTORY, ())


class OfSearches(DeedRaises):
    def test_no_deed(self):
        for places, first in NO_SETS:
            self.no_deed(first, searches.seen_at, HISTORY, places)
            self.no_deed(first, searches.unsure_paper, CHART, HISTORY, ALL, ("ann",), places)
            self.no_deed(first, searches.unsure_paper, BARE, HISTORY, (), (), places)
            for thing in NO_THINGS:
                self.no_deed(first, searches.is_unsure_paper, CHART, HISTORY, ALL, ("ann",), places, thing)
        for place in NO_PLACES:
            self.no_deed(place, searches.with_taker, HISTORY, place, "ann")
        self.no_deed(0, searches.with_taker, (), 0, "ann")

    def test_with_taker(self):
        view = (("give", "ann", "", ALL), ("give", "ann", "bob", ALL), ("vest", "", ALL), ("swap", "ann", "bob", ALL),
                ("way", ALL, ALL), ("charge", "debt", ALL))
        self.unfit(searches.with_taker, view, 0, "ann")
        for place in (1, 3, 4, 5):
            for name in ("ann", "bob", "cid"):
                self.unfit(searches.with_taker, view, place, name)
        self.assertEqual(searches.with_taker(view, 2, "ann")[2], ("vest", "ann", ALL))
        self.assertEqual(searches.with_taker(view, 0, "bob")[0], ("give", "ann", "bob", ALL))

    def test_can_not(self):
        self.can_not(searches.unsure_paper, CHART, HISTORY, ALL, ("ann",), (0, 1))
        self.can_not(searches.unsure_paper, CHART, HISTORY, ALL, (), ())
        self.can_not(searches.unsure_paper, CHART, HISTORY, (), ("ann",), ())
        self.can_not(searches.unsure_paper, BARE, HISTORY, ALL, ("ann",), ())


class OfWays(DeedRaises):
    def test_no_point(self):
        for place in (2, 3, -1, -2, 10 ** 30, -10 ** 30):
            for function in (ways.goes_in, ways.ended_in):
                self.raises(NoPoint, {"place": place}, function, CHART, HISTORY, WORLD, place, 0)
                self.raises(NoPoint, {"place": place}, function, CHART, HISTORY, WORLD, 1, place)
                self.raises(NoPoint, {"place": place}, function, CHART, HISTORY, WORLD, place, 7)
                self.raises(NoPoint, {"place": place}, function, CHART, HISTORY, WORLD, place, place)
        self.raises(NoPoint, {"place": 0}, ways.goes_in, CHART, HISTORY, (), 0, -1)
        self.raises(NoPoint, {"place": -1}, ways.ended_in, CHART, (), (), -1, 0)

    def test_near_that_is_not_let(self):
        chart = (("a", "b"), IN_A)
        for function in (ways.can_cross, ways.sure_cross):
            for near in (("a",), ("a", "b"), ["a"]):
                self.unfit(function, chart, HISTORY, near)
            self.unfit(function, ((), ((),)), (), ())
            self.assertEqual(function(chart, (), ("b",)), ())

    def test_none(self):
        self.assertIsNone(ways.no_go(BARE, HISTORY, ALL, ALL))
        self.assertIsNone(ways.no_go(CHART, HISTORY, (), ALL))
        self.assertIsNone(ways.a_way(CHART, (), ALL, ALL))
        self.assertIsNone(ways.unlike_ways(CHART, HISTORY, HISTORY))


class OfWrongs(DeedRaises):
    def test_places(self):
        for places, first in NO_SETS:
            self.no_deed(first, wrongs.struck, HISTORY, places)
            for function in (wrongs.wrong_land, wrongs.healed, wrongs.do_otherwise, wrongs.wrong_paper,
                             wrongs.doubt_land, wrongs.mattering, wrongs.doubt_paper):
                self.no_deed(first, function, CHART, HISTORY, places)
                self.no_deed(first, function, BARE, HISTORY, places)
            self.no_deed(first, wrongs.can_own, HISTORY, places, (), "ann")
            self.no_deed(first, wrongs.settled_land, BARE, HISTORY, places, "ann")
            self.no_deed(first, wrongs.fewest_proofs, HISTORY, places, (), "ann", "zed")
            for thing in NO_THINGS:
                self.no_deed(first, wrongs.is_wrong_paper, CHART, HISTORY, places, thing)
                self.no_deed(first, wrongs.is_doubt_paper, CHART, HISTORY, places, thing)
            self.no_deed(first, wrongs.wrong_behind, CHART, HISTORY, places, 0)
            self.no_deed(first, wrongs.wrong_behind, CHART, HISTORY, places, 77)

    def test_place_and_other(self):
        for place in NO_PLACES:
            self.no_deed(place, wrongs.wrong_behind, CHART, HISTORY, (0, 2), place)
            self.no_deed(place, wrongs.wrong_behind, CHART, HISTORY, (), place)
            self.no_deed(place, wrongs.moved, HISTORY, place, 0)
            self.no_deed(place, wrongs.moved, HISTORY, 0, place)
            self.no_deed(place, wrongs.moved, HISTORY, place, 99)
            self.no_deed(place, wrongs.late_land, CHART, HISTORY, place, -99)
            self.no_deed(place, wrongs.late_land, CHART, HISTORY, 2, place)
            self.no_deed(place, wrongs.latest, CHART, HISTORY, place)
            self.no_deed(place, wrongs.earliest, BARE, HISTORY, place)
        self.no_deed(0, wrongs.latest, CHART, (), 0)
        self.no_deed(0, wrongs.struck, (), (0,))

    def test_can_not(self):
        self.can_not(wrongs.wrong_paper, CHART, HISTORY, ())
        self.can_not(wrongs.wrong_paper, CHART, HISTORY, (2,))
        self.can_not(wrongs.wrong_paper, BARE, HISTORY, (0, 1))
        self.can_not(wrongs.fewest_struck, HISTORY, (), "ann", "cid")
        self.can_not(wrongs.fewest_struck, (), (), "ann", "bob")
        self.can_not(wrongs.doubt_paper, CHART, HISTORY, (2,))
        self.can_not(wrongs.doubt_paper, BARE, HISTORY, (0, 1, 2))
        self.can_not(wrongs.fewest_proofs, HISTORY, (), (), "ann", "ann")
        self.can_not(wrongs.fewest_proofs, HISTORY, (0, 1, 2), (), "ann", "cid")
        self.assertEqual(wrongs.fewest_struck((), (), "ann", "ann"), ())
        self.assertEqual(wrongs.fewest_proofs((), (), (), "ann", "ann"), ())


class OfWholes(DeedRaises):
    book = (("give", "ann", "bob", ALL), ("whole", "ann", "bob", ALL), ("way", ALL, ALL), ("whole", "bob", "cid", IN_A))

    def test_guess(self):
        """At each of the numbers a "whole" is asked for, not only a DEED."""
        for guess, first in (((0,), 0), ((1, 2, 3), 2), ((-3,), -3), ((-1, 0, 1), -1), ((1, 3, 4), 4),
                             ((3, 10 ** 30), 10 ** 30),
                             ([0, 1], 0)):
            self.no_deed(first, wholes.played, self.book, guess)
            self.no_deed(first, wholes.ground, CHART, self.book, guess, "ann")
            self.no_deed(first, wholes.ground, BARE, self.book, guess, "ann")
            for function in (wholes.can_come, wholes.fewest_points, wholes.world_for):
                self.no_deed(first, function, CHART, self.book, guess)
                self.no_deed(first, function, BARE, self.book, guess)
            for thing in NO_THINGS:
                self.no_deed(first, wholes.is_world_for, CHART, self.book, guess, thing)

    def test_place(self):
        for place in (0, 2, 4, -1, -3, 10 ** 30, -10 ** 30):
            self.no_deed(place, wholes.against_land, CHART, self.book, place)
            self.no_deed(place, wholes.against_land, BARE, self.book, place)
        self.assertEqual(wholes.against_land(BARE, self.book, 3), ())

    def test_none(self):
        self.assertIsNone(wholes.fewest_points(BARE, self.book, ()))
        self.assertIsNone(wholes.world_for(BARE, self.book, (1,)))
        self.assertIsNone(wholes.fewest_split(CHART, self.book, self.book))
        self.assertIsNone(wholes.split_world(BARE, self.book, ()))
        self.assertEqual(wholes.world_for(BARE, self.book, (1, 3)), ())


class OfOrders(DeedRaises):
    def each(self):
        """All functions with waits, as functions of these alone; with things that are none, too."""
        yield orders.closed_waits, (HISTORY,), ()
        yield orders.how_many_orders, (HISTORY,), ()
        yield orders.let_orders, (HISTORY,), ()
        for chart in (CHART, BARE):
            for function in (orders.waits_hold, orders.end_holds, orders.land_apart, orders.waits_paper,
                             orders.end_paper):
                yield function, (chart, HISTORY), ()
        for thing in NO_THINGS:
            yield orders.is_order, (HISTORY,), (thing,)
            yield orders.is_waits_paper, (CHART, HISTORY), (thing,)
            yield orders.is_end_paper, (CHART, HISTORY), (thing,)

    def test_no_deed(self):
        for waits, first in ((((0, 3),), 3), (((3, 4),), 3), (((-1, 0),), -1), (((0, 1), (1, 5)), 5),
                             (((2, 1), (7, 8)), 7), (((5, -2), (0, 1)), 5), (((1, 1), (0, 0), (-9, 0)), -9),
                             ([[0, 1], [10 ** 30, 0]], 10 ** 30)):
            for function, ahead, behind in self.each():
                self.no_deed(first, function, *ahead, waits, *behind)

    def test_unfit(self):
        for waits in (((1, 0),), ((0, 0),), ((0, 1), (0, 1)), ((1, 2), (0, 1)), ((0, 2), (0, 1)), ((0, 1), (2, 1)),
                      [[1, 2], [0, 2]]):
            for function, ahead, behind in self.each():
                self.unfit(function, *ahead, waits, *behind)

    def test_in_order(self):
        for order in ((), (0, 1), (0, 1, 3), (-1, 0, 1), (0, 0, 1), (2, 1, 0, 0), (10 ** 30, 1, 2), [0, 2], (5,)):
            self.unfit(orders.in_order, HISTORY, order)
        self.unfit(orders.in_order, (), (0,))


if __name__ == "__main__":
    unittest.main()
