"""Rents beside a plain look: all WORLDS of few POINTS of small size, all ways to lay SIZES out over the LET SPOTS."""

import unittest
from itertools import product
from random import Random

from landpoints import rents
from landpoints.errors import CanNot, NoParcel
from tests import grounds, histories, plain

HUGE = 10 ** 30


def rate(rent, spot):
    return sum(number for cut, number in rent if plain.is_in(spot, cut))


def total(rent, world):
    found = 0
    for spot, size, _ in world:
        for _ in range(size) if size < 20 else ():
            found += rate(rent, spot)
        if size >= 20:
            found += size * rate(rent, spot)
    return found


def some_rent(chosen, chart, numbers=(-2, -1, -1, 0, 1, 1, 2), most=3):
    cuts = grounds.some_cuts(chart[0], 6, 2)
    return tuple((chosen.choice(cuts), chosen.choice(numbers)) for _ in range(chosen.randint(0, most)))


def some_chart(chosen, most=2):
    """A MAP of none to so many AREAS, more often one of much land."""
    charts = grounds.maps(most, 6)
    return chosen.choice(charts + [chart for chart in charts if len(plain.let(chart)) > 1] * 2)


def worlds(chart, points, sizes):
    """All WORLDS of so many POINTS of these sizes, in one order."""
    choices = [(spot, size, "ann") for spot in plain.let(chart) for size in sizes]
    for world in product(choices, repeat=points):
        if all(world[at][0] < world[at + 1][0] for at in range(points - 1)):
            yield world


def shape(test, chart, world, most):
    """Looks at the POINTS of a WORLD of at most so many."""
    test.assertIsInstance(world, tuple)
    test.assertLessEqual(len(world), most)
    for spot, size, first in world:
        test.assertIn(spot, plain.let(chart))
        test.assertTrue(type(size) is int and size > 0 and first.isalpha())


class Sums(unittest.TestCase):
    def test_rates_and_sums(self):
        chosen = Random("sums")
        for _ in range(300):
            chart = some_chart(chosen, 3)
            rent = some_rent(chosen, chart, (-HUGE, -3, 0, 1, 5, HUGE), 5)
            for spot in plain.subsets(chart[0]):
                self.assertEqual(rents.rate_at(rent, spot), rate(rent, spot))
            world = histories.some_world(chosen, chart, ("ann", "bob"), 5)
            world = tuple((spot, chosen.choice((size, HUGE)), first) for spot, size, first in world)
            self.assertEqual(rents.rent_in(rent, world), total(rent, world))
            self.assertEqual(rents.rent_in(rent, ()), 0)
            self.assertEqual(rents.rent_in((), world), 0)

    def test_one_cut_twice(self):
        """Each pair counts by itself."""
        rent = ((((),), 2), (((),), 2), ((), 100), (((("a", True),), (("a", False),)), -1))
        self.assertEqual(rents.rate_at(rent, ("a",)), 3)
        self.assertEqual(rents.rent_in(rent, ((("a",), 4, "ann"), ((), 1, "ann"))), 15)

    def test_plan_rent(self):
        parcels = (("east", ((("a", True),),)), ("none", ()), ("west", ((("a", False),),)))
        self.assertEqual(rents.plan_rent(parcels, (("east", 7), ("west", -HUGE))),
                         ((((("a", True),),), 7), (((("a", False),),), -HUGE)))
        self.assertEqual(rents.plan_rent(parcels, (("none", 0),)), (((), 0),))
        self.assertEqual(rents.plan_rent(parcels, ()), ())
        self.assertEqual(rents.plan_rent((), ()), ())
        for rates, name in (((("", 1),), ""), ((("east", 1), ("fen", 2), ("moor", 3)), "fen"), ((("EAST", 1),), "EAST"),
                            ([["Zoo", 1], ["a b", 2]], "Zoo"), ((("eas", 1), ("east", 1)), "eas")):
            with self.assertRaises(NoParcel) as caught:
                rents.plan_rent(parcels, rates)
            self.assertEqual((type(caught.exception), vars(caught.exception)), (NoParcel, {"name": name}))
        with self.assertRaises(NoParcel):
            rents.plan_rent((), (("east", 1),))


class Never(unittest.TestCase):
    def test_beside_spots_and_worlds(self):
        chosen = Random("never")
        found = {True: 0, False: 0}
        for _ in range(500):
            chart = some_chart(chosen)
            one, other = some_rent(chosen, chart), some_rent(chosen, chart)
            if chosen.random() < 0.5:
                one = one + other
            number = chosen.choice((-HUGE, -1, 0, 0, 0, 1, 3, 7))
            wanted = number >= 0 and all(rate(one, spot) >= rate(other, spot) for spot in plain.let(chart))
            self.assertIs(rents.never_less(chart, one, other, number), wanted)
            # Rates are unlike by one at least, so that sizes to one more than number are enough.
            less = [world for many in range(3) for world in worlds(chart, many, (1, 4, 8))
                    if total(one, world) + number < total(other, world)]
            self.assertEqual(not less, wanted)
            paper = rents.less_paper(chart, one, other, number)
            self.assertEqual(paper is None, wanted)
            if paper is not None:
                shape(self, chart, paper, 1)
                self.assertLess(total(one, paper) + number, total(other, paper))
            self.assertIs(rents.is_less_paper(chart, one, other, number, paper), not wanted)
            found[wanted] += 1
        self.assertGreater(min(found.values()), 100, found)

    def test_is_less_paper(self):
        chosen = Random("is less")
        found = {True: 0, False: 0}
        for _ in range(500):
            chart = some_chart(chosen)
            one, other = some_rent(chosen, chart), some_rent(chosen, chart)
            number = chosen.choice((-3, -1, 0, 1, 3))
            world = histories.some_world(chosen, chart, ("ann", "bob"), 5)
            wanted = total(one, world) + number < total(other, world)
            self.assertIs(rents.is_less_paper(chart, one, other, number, world), wanted)
            found[wanted] += 1
        self.assertGreater(min(found.values()), 100, found)

    def test_great_numbers(self):
        chart, all_land = (("a",), ()), ((),)
        for number, gap in ((HUGE, 1), (HUGE, 7), (HUGE, HUGE), (HUGE - 1, HUGE), (0, HUGE), (6, 3), (7, 3), (8, 3)):
            one, other = ((all_land, -HUGE),), ((all_land, gap - HUGE),)
            ((_, size, _),) = paper = rents.less_paper(chart, one, other, number)
            self.assertLess(-HUGE * size + number, (gap - HUGE) * size)
            self.assertIs(rents.is_less_paper(chart, one, other, number, paper), True)
            # At just this number it is not less yet.
            self.assertIs(rents.is_less_paper(chart, one, other, gap * size, paper), False)
            self.assertIs(rents.is_less_paper(chart, one, other, gap * size - 1, paper), True)

    def test_below_nothing(self):
        """By the WORLD without POINTS alone the number must not be below 0."""
        for chart in (((), ()), ((), ((),)), (("a",), ())):
            self.assertIs(rents.never_less(chart, (), (), -1), False)
            self.assertIs(rents.is_less_paper(chart, (), (), -1, ()), True)
            self.assertIs(rents.is_less_paper(chart, (), (), 0, ()), False)
            self.assertIs(rents.is_less_paper(chart, (), (), -1, rents.less_paper(chart, (), (), -1)), True)
            self.assertIs(rents.never_less(chart, (), (), 0), True)
            self.assertIsNone(rents.less_paper(chart, (), (), HUGE))


class Either(unittest.TestCase):
    def test_beside_worlds(self):
        chosen = Random("either")
        found = {"either": 0, 1: 0, 2: 0}
        for _ in range(450):
            chart = some_chart(chosen)
            one, other = (some_rent(chosen, chart, (-2, -1, 1, 2)) for _ in range(2))
            if chosen.random() < 0.4:
                near, far = grounds.some_cuts(chart[0], 6, 2)[-1], chosen.choice(grounds.some_cuts(chart[0], 6, 2))
                one, other = ((near, chosen.choice((-2, -1))), (far, 1)), ((near, 1), (far, chosen.choice((-2, -1))))
            # No rate is beyond 6, so that if any sizes will do such that are to 12 will.
            neither = [len(world) for many in range(3) for world in worlds(chart, many, range(1, 13))
                       if total(one, world) < 0 and total(other, world) < 0]
            wanted = not neither
            self.assertIs(rents.either_way(chart, one, other), wanted)
            paper = rents.neither_paper(chart, one, other)
            self.assertEqual(paper is None, wanted)
            if paper is not None:
                shape(self, chart, paper, 2)
                self.assertTrue(total(one, paper) < 0 and total(other, paper) < 0)
            self.assertIs(rents.is_neither_paper(chart, one, other, paper), not wanted)
            found["either" if wanted else min(neither)] += 1
        self.assertGreater(min(found.values()), 20, found)

    def test_is_neither_paper(self):
        chosen = Random("is neither")
        found = {True: 0, False: 0}
        for _ in range(500):
            chart = some_chart(chosen)
            one, other = (some_rent(chosen, chart, (-3, -2, -1, 1, 2)) for _ in range(2))
            world = histories.some_world(chosen, chart, ("ann", "bob"), 5)
            wanted = total(one, world) < 0 and total(other, world) < 0
            self.assertIs(rents.is_neither_paper(chart, one, other, world), wanted)
            found[wanted] += 1
        self.assertGreater(min(found.values()), 40, found)

    def test_ratios(self):
        """Beside the ratio itself: at (-p, q) and (r, -s) both are below 0 by some sizes exactly if q * r < p * s."""
        chart, inside, outside = (("a",), ()), ((("a", True),),), ((("a", False),),)
        numbers = (1, 2, 3, 5, HUGE - 1, HUGE, 0)
        for loss, gain, far_gain, far_loss in product(numbers[:-1], numbers, numbers, numbers[:-1]):
            one, other = ((inside, -loss), (outside, far_gain)), ((inside, gain), (outside, -far_loss))
            wanted = gain * far_gain >= loss * far_loss
            self.assertIs(rents.either_way(chart, one, other), wanted)
            paper = rents.neither_paper(chart, one, other)
            self.assertEqual(paper is None, wanted)
            if paper is not None:
                shape(self, chart, paper, 2)
                self.assertTrue(total(one, paper) < 0 and total(other, paper) < 0)

    def test_no_land(self):
        for chart in (((), ((),)), (("a",), ((("a", False),), (("a", True),)))):
            self.assertIs(rents.either_way(chart, ((((),), -1),), ((((),), -1),)), True)
            self.assertIsNone(rents.neither_paper(chart, ((((),), -1),), ((((),), -1),)))
            self.assertIs(rents.is_neither_paper(chart, (), (), ()), False)


def layouts(chart, sizes, most):
    """All ways to give each LET SPOT a size from 0 to most such that the SIZES come out."""
    let = plain.let(chart)
    for row in product(range(most + 1), repeat=len(let)):
        told = dict(zip(let, row))
        if all(sum(size for spot, size in told.items() if plain.is_in(spot, cut)) == number for cut, number in sizes):
            yield told


def in_cut(told, cut):
    return sum(size for spot, size in told.items() if plain.is_in(spot, cut))


class Sizes(unittest.TestCase):
    def sizes(self, chosen, chart):
        cuts = grounds.some_cuts(chart[0], 8, 2)
        many = chosen.choice((0, 1, 2, 2, 2, 2))
        row = tuple((chosen.choice(cuts), chosen.choice((0, 1, 2, 3))) for _ in range(many))
        if len(row) == 2 and chosen.random() < 0.2:
            row = (row[0], (row[0][0], row[1][1]))
        return row

    def test_beside_all_layouts(self):
        chosen = Random("layouts")
        found = set()
        for _ in range(700):
            chart = some_chart(chosen)
            sizes = self.sizes(chosen, chart)
            cut = chosen.choice(grounds.some_cuts(chart[0], 8, 2))
            rows = [in_cut(told, cut) for told in layouts(chart, sizes, 3)]
            self.assertIs(rents.can_have(chart, sizes), bool(rows))
            if not rows:
                self.can_not(chart, sizes, cut)
                found.add("no world")
                continue
            # More room lets there be more in the CUT exactly if there is no greatest size.
            greatest = max(rows)
            if max(in_cut(told, cut) for told in layouts(chart, sizes, 4)) > greatest:
                greatest = None
            self.assertEqual(rents.greatest_size(chart, sizes, cut), greatest)
            self.assertEqual(rents.least_size(chart, sizes, cut), min(rows))
            self.look_at_worlds(chart, sizes, cut, greatest, min(rows))
            found.add((len(sizes), greatest is None, greatest != min(rows)))
        self.assertLessEqual({"no world", (0, False, False), (0, True, True), (1, False, False), (1, True, True),
                              (1, False, True), (2, False, False), (2, False, True), (2, True, True)}, found)

    def look_at_worlds(self, chart, sizes, cut, greatest, least):
        small, great = rents.small_world(chart, sizes, cut), rents.great_world(chart, sizes, cut)
        self.assertEqual(great is None, greatest is None)
        for world, wanted in ((small, least), (great, greatest)):
            if world is not None:
                shape(self, chart, world, 2)
                self.assertEqual(sum(size for spot, size, _ in world if plain.is_in(spot, cut)), wanted)
                for inner, number in sizes:
                    self.assertEqual(sum(size for spot, size, _ in world if plain.is_in(spot, inner)), number)
                self.assertIs(rents.has_sizes(sizes, world), True)

    def can_not(self, chart, sizes, cut):
        for function in (rents.greatest_size, rents.least_size, rents.great_world, rents.small_world):
            with self.assertRaises(CanNot) as caught:
                function(chart, sizes, cut)
            self.assertEqual((type(caught.exception), vars(caught.exception)), (CanNot, {}))

    def test_has_sizes(self):
        chosen = Random("has")
        found = {True: 0, False: 0}
        for _ in range(600):
            chart = some_chart(chosen)
            sizes = self.sizes(chosen, chart)
            world = histories.some_world(chosen, chart, ("ann", "bob"), 3)
            world = tuple((spot, 1 + size % 2, first) for spot, size, first in world)
            wanted = all(sum(size for spot, size, _ in world if plain.is_in(spot, cut)) == number
                         for cut, number in sizes)
            self.assertIs(rents.has_sizes(sizes, world), wanted)
            found[wanted] += 1
        self.assertGreater(min(found.values()), 100, found)

    def test_cuts_that_are_alike_within_and_apart(self):
        areas, in_a, in_b, all_land = ("a", "b"), ((("a", True),),), ((("b", True),),), ((),)
        free, apart = (areas, ()), (areas, ((("a", True), ("b", True)),))
        within, alike = (areas, ((("a", True), ("b", False)),)), (areas, ((("a", False), ("b", True)),
                                                                         (("a", True), ("b", False))))
        both, either = ((("a", True), ("b", True)),), ((("a", True),), (("b", True),))
        for one, other in ((3, 5), (5, 3), (4, 4), (0, 0), (0, HUGE), (HUGE, HUGE), (HUGE, HUGE + 1), (HUGE, 0)):
            sizes = ((in_a, one), (in_b, other))
            self.assertIs(rents.can_have(free, sizes), True)
            self.assertEqual(rents.greatest_size(free, sizes, both), min(one, other))
            self.assertEqual(rents.least_size(free, sizes, both), 0)
            self.assertEqual(rents.greatest_size(free, sizes, either), one + other)
            self.assertEqual(rents.least_size(free, sizes, either), max(one, other))
            self.assertIsNone(rents.greatest_size(free, sizes, all_land))
            self.assertIsNone(rents.great_world(free, sizes, all_land))
            self.assertEqual(rents.least_size(free, sizes, all_land), max(one, other))
            self.assertEqual(rents.greatest_size(apart, sizes, either), one + other)
            self.assertEqual(rents.least_size(apart, sizes, either), one + other)
            self.assertIs(rents.can_have(within, sizes), one <= other)
            self.assertIs(rents.can_have(alike, sizes), one == other)
            self.assertIs(rents.can_have(free, ((in_a, one), (in_a, other))), one == other)
            self.assertIs(rents.can_have(free, ((in_a, one), (all_land, other))), one <= other)
            self.assertIs(rents.can_have(free, ((all_land, one), (in_a, other))), other <= one)
            if one > other:
                self.can_not(within, sizes, ())
            else:
                self.assertEqual(rents.least_size(within, sizes, both), one)
                self.assertEqual(rents.greatest_size(within, sizes, ((("a", False),),)), None)
                self.assertEqual(rents.greatest_size(within, sizes, ((("a", False), ("b", True)),)), other - one)

    def test_no_sizes_and_no_land(self):
        for chart in (((), ((),)), (("a",), ((),))):
            self.assertIs(rents.can_have(chart, ()), True)
            self.assertEqual(rents.greatest_size(chart, (), ((),)), 0)
            self.assertEqual(rents.least_size(chart, (), ((),)), 0)
            self.assertEqual(rents.great_world(chart, (), ((),)), ())
            self.assertEqual(rents.small_world(chart, ((((),), 0),), ((),)), ())
            self.assertIs(rents.can_have(chart, ((((),), 1),)), False)
            self.can_not(chart, ((((),), 1),), ())
        self.assertIsNone(rents.greatest_size(((), ()), (), ((),)))
        self.assertEqual(rents.greatest_size(((), ()), (), ()), 0)
        self.assertIs(rents.can_have(((), ()), (((), 1),)), False)
        self.assertIs(rents.can_have(((), ()), (((), 0), ((), 0))), True)
        self.assertIs(rents.has_sizes((), ()), True)
        self.assertIs(rents.has_sizes((((), 0), (((),), 0)), ()), True)
        self.assertIs(rents.has_sizes((((), 1),), ()), False)

    def test_can_not_ahead_of_no_greatest_one(self):
        chart, in_a = (("a",), ()), ((("a", True),),)
        self.can_not(chart, ((in_a, 1), (in_a, 2)), ((),))
        self.assertIsNone(rents.greatest_size(chart, ((in_a, 1), (in_a, 1)), ((),)))


if __name__ == "__main__":
    unittest.main()
