"""areas.py beside a plain look: all SPOTS of small MAPS, with several surveys, CUTS and LANDS."""

import unittest

from landpoints import areas
from tests import grounds, plain


class Spots(unittest.TestCase):
    def test_spots_of(self):
        for many in range(6):
            names = grounds.areas_of(many)
            with self.subTest(many=many):
                self.assertEqual(areas.spots_of(names), plain.subsets(names))
                self.assertEqual(len(areas.spots_of(names)), 2 ** many)

    def test_keeps(self):
        for many in range(4):
            names = grounds.areas_of(many)
            for condition in plain.all_conditions(names):
                for spot in plain.subsets(names):
                    self.assertIs(areas.keeps(spot, condition), plain.keeps(spot, condition))

    def test_is_in(self):
        for many in range(5):
            names = grounds.areas_of(many)
            for cut in grounds.some_cuts(names, 30, 6):
                for spot in plain.subsets(names):
                    self.assertIs(areas.is_in(spot, cut), plain.is_in(spot, cut))

    def test_no_land_and_all_land(self):
        for spot in plain.subsets(grounds.areas_of(3)):
            self.assertIs(areas.is_in(spot, ()), False)
            self.assertIs(areas.is_in(spot, ((),)), True)
            self.assertIs(areas.keeps(spot, ()), True)


class Lands(unittest.TestCase):
    def test_let_spots_and_land_of(self):
        for chart in grounds.maps() + grounds.great_maps():
            self.assertEqual(areas.let_spots(chart), plain.let(chart))
            for cut in grounds.some_cuts(chart[0], 12, 6):
                self.assertEqual(areas.land_of(chart, cut), plain.land(chart, cut))
                self.assertIs(areas.is_land(chart, areas.land_of(chart, cut)), True)

    def test_land_of_is_where_points_can_be(self):
        """The guarantee: no WORLD has a POINT in a CUT exactly if its LAND is ()."""
        for chart in grounds.maps():
            for cut in grounds.some_cuts(chart[0], 8):
                worlds = [((spot, 1, "ann"),) for spot in plain.subsets(chart[0])]
                found = [world[0][0] for world in worlds
                         if areas.is_world(chart, world) and areas.size_in(world, cut)]
                self.assertEqual(areas.land_of(chart, cut), tuple(found))

    def test_two_cuts(self):
        for chart in grounds.maps(3, 4) + grounds.great_maps()[:2]:
            cuts = grounds.some_cuts(chart[0], 10)
            lands = {cut: set(plain.land(chart, cut)) for cut in cuts}
            for one in cuts:
                for other in cuts:
                    self.assertIs(areas.are_alike(chart, one, other), lands[one] == lands[other])
                    self.assertIs(areas.lies_within(chart, one, other), lands[one] <= lands[other])

    def test_both_cuts(self):
        for many in range(5):
            names = grounds.areas_of(many)
            cuts = grounds.some_cuts(names, 12)
            for one in cuts:
                for other in cuts:
                    both = areas.both_cuts(one, other)
                    self.assertEqual(both, plain.both_cuts(names, one, other))
                    self.assertIs(areas.is_cut(names, both), True)
                    for spot in plain.subsets(names):
                        wanted = plain.is_in(spot, one) and plain.is_in(spot, other)
                        self.assertIs(plain.is_in(spot, both), wanted)

    def test_both_cuts_of_no_land_and_all_land(self):
        cut = ((("a", True),), (("b", False),))
        self.assertEqual(areas.both_cuts(cut, ()), ())
        self.assertEqual(areas.both_cuts((), cut), ())
        self.assertEqual(areas.both_cuts(cut, ((),)), cut)
        self.assertEqual(areas.both_cuts(((("a", True),),), ((("a", False),),)), ())

    def test_size_in(self):
        for chart in grounds.maps(3, 4):
            world = tuple((spot, 10 ** at, "ann") for at, spot in enumerate(plain.let(chart) * 2))
            for cut in grounds.some_cuts(chart[0], 8):
                wanted = 0
                for spot, size, _ in world:
                    if plain.is_in(spot, cut):
                        wanted += size
                self.assertEqual(areas.size_in(world, cut), wanted)
        self.assertEqual(areas.size_in((), ((),)), 0)
        self.assertEqual(areas.size_in((((), 10 ** 400, "ann"), ((), 1, "bob")), ((),)), 10 ** 400 + 1)


class PlainCuts(unittest.TestCase):
    def test_beside_the_look(self):
        for chart in grounds.maps() + grounds.great_maps():
            for land in grounds.lands(chart):
                cut = areas.plain_cut(chart, land)
                self.assertEqual(cut, plain.plain_cut(chart, land))
                self.assertIs(areas.is_cut(chart[0], cut), True)
                self.assertEqual(areas.land_of(chart, cut), land)

    def test_alike_cuts_come_to_the_same(self):
        for chart in grounds.maps(3, 4):
            cuts = grounds.some_cuts(chart[0], 10)
            comes = {cut: areas.plain_cut(chart, areas.land_of(chart, cut)) for cut in cuts}
            for one in cuts:
                for other in cuts:
                    self.assertIs(comes[one] == comes[other], areas.are_alike(chart, one, other))

    def test_no_land_and_all_land(self):
        for chart in grounds.maps():
            let = plain.let(chart)
            self.assertEqual(areas.plain_cut(chart, ()), ())
            self.assertEqual(areas.plain_cut(chart, let), ((),) if let else ())


class Surveys(unittest.TestCase):
    def test_is_surveyed_and_needless(self):
        for chart in grounds.maps(3, 12) + grounds.great_maps():
            self.assertEqual(areas.needless(chart), plain.needless(chart))
            for condition in plain.all_conditions(chart[0]):
                wanted = not any(plain.keeps(spot, condition) for spot in plain.let(chart))
                self.assertIs(areas.is_surveyed(chart, condition), wanted)

    def test_needless_ones_of_each_other(self):
        whole = (("a",), ((), (("a", False),), (("a", True),)))
        self.assertEqual(areas.needless(whole), whole[1])
        self.assertEqual(areas.needless((("a",), whole[1][1:])), ())
        self.assertEqual(areas.needless(((), ((),))), ())
        self.assertEqual(areas.needless(((), ())), ())

    def test_with_and_without_bare(self):
        for chart in grounds.maps(2, 6):
            names, bare = chart
            for condition in plain.all_conditions(names):
                there = condition in bare
                longer = areas.with_bare(chart, condition)
                self.assertEqual(longer, (names, tuple(sorted({*bare, condition}))))
                self.assertEqual(longer == chart, there)
                shorter = areas.without_bare(longer, condition)
                self.assertEqual(shorter, (names, tuple(kept for kept in bare if kept != condition)))
                self.assertIs(areas.is_map(longer) and areas.is_map(shorter), True)

    def test_within_apart_all(self):
        for chart in grounds.maps(3, 6):
            names, let = chart[0], plain.let(chart)
            for name in names:
                for outer in names:
                    if name != outer:
                        self.look_at_two(chart, let, name, outer)
            for some in plain.subsets(names):
                left = tuple(spot for spot in let if set(spot) & set(some))
                found = areas.with_all(chart, some)
                self.assertEqual(plain.let(found), left)
                self.assertIn(tuple((name, False) for name in some), found[1])
                self.assertEqual(areas.with_all(chart, some[::-1] + some), found)
                self.assertIs(areas.is_map(found), True)

    def look_at_two(self, chart, let, name, outer):
        within, apart = areas.with_within(chart, name, outer), areas.with_apart(chart, name, outer)
        self.assertIn(tuple(sorted(((name, True), (outer, False)))), within[1])
        self.assertIn(tuple(sorted(((name, True), (outer, True)))), apart[1])
        self.assertEqual(plain.let(within), tuple(spot for spot in let if name not in spot or outer in spot))
        self.assertEqual(plain.let(apart), tuple(spot for spot in let if name not in spot or outer not in spot))
        for found in (within, apart):
            self.assertIs(areas.is_map(found), True)
            self.assertLessEqual(set(chart[1]), set(found[1]))
            self.assertLessEqual(len(found[1]), len(chart[1]) + 1)

    def test_with_all_of_none(self):
        found = areas.with_all((("a",), ((("a", True),),)), ())
        self.assertEqual(found, (("a",), ((), (("a", True),))))
        self.assertEqual(areas.let_spots(found), ())


class NamesOfAreas(unittest.TestCase):
    def test_with_and_without_area(self):
        for chart in grounds.maps(3, 4):
            for name in ("aa", "bz", "z"):
                longer = areas.with_area(chart, name)
                self.assertEqual(longer, (tuple(sorted(chart[0] + (name,))), chart[1]))
                self.assertEqual(areas.without_area(longer, name), chart)
                let = plain.let(chart)
                wider = {tuple(sorted(spot + (name,))) for spot in let} | set(let)
                self.assertEqual(areas.let_spots(longer), tuple(sorted(wider)))

    def test_renamed(self):
        for chart in grounds.maps(3, 6):
            for pairs in ((), (("a", "z"),), (("a", "b"), ("b", "c"), ("c", "a")), (("x", "a"),),
                          (("b", "aa"), ("q", "aa")), (("a", "a"),), (("c", "m"), ("a", "n"))):
                names = dict(pairs)
                new = {name: names.get(name, name) for name in chart[0]}
                if len(set(new.values())) < len(new):
                    continue
                found = areas.renamed(chart, pairs)
                self.assertIs(areas.is_map(found), True)
                self.assertEqual(found[0], tuple(sorted(new.values())))
                moved = {frozenset((new[name], inside) for name, inside in condition) for condition in chart[1]}
                self.assertEqual({frozenset(condition) for condition in found[1]}, moved)
                self.assertEqual(areas.renamed_cut(chart[1], pairs), found[1])
                let = {tuple(sorted(new[name] for name in spot)) for spot in plain.let(chart)}
                self.assertEqual(areas.let_spots(found), tuple(sorted(let)))

    def test_renamed_all_at_once(self):
        chart = (("a", "b"), ((("a", True), ("b", False)),))
        swapped = (("a", "b"), ((("a", False), ("b", True)),))
        self.assertEqual(areas.renamed(chart, (("a", "b"), ("b", "a"))), swapped)
        self.assertEqual(areas.renamed_cut(chart[1], (("b", "a"), ("a", "b"))), swapped[1])

    def test_renamed_cut(self):
        cut = ((("a", False), ("b", True)), (("c", True),))
        swapped = ((("a", True),), (("b", True), ("c", False)))
        self.assertEqual(areas.renamed_cut(cut, (("c", "a"), ("a", "c"))), swapped)
        self.assertEqual(areas.renamed_cut((), (("a", "b"),)), ())
        self.assertEqual(areas.renamed_cut(((),), (("a", "b"),)), ((),))


class Felt(unittest.TestCase):
    def test_felt_and_fewest(self):
        for chart in grounds.maps(3, 5) + grounds.great_maps():
            for land in grounds.lands(chart, 6):
                self.assertEqual(areas.felt_areas(chart, land), plain.felt(chart, land))
                self.assertEqual(areas.fewest_areas(chart, land), plain.fewest_areas(chart, land))
                for names in plain.subsets(chart[0]):
                    wanted = plain.enough(chart, land, names)
                    self.assertIs(areas.are_enough(chart, land, names), wanted)
                    self.assertIs(areas.are_enough(chart, land, names[::-1] + names), wanted)

    def test_one_of_two_that_tell_the_same(self):
        same = (("a", "b"), ((("a", False), ("b", True)), (("a", True), ("b", False))))
        self.assertEqual(areas.fewest_areas(same, (("a", "b"),)), ("a",))
        self.assertEqual(areas.felt_areas(same, (("a", "b"),)), ())
        self.assertIs(areas.are_enough(same, (("a", "b"),), ("b",)), True)

    def test_no_land_and_all_land(self):
        for chart in grounds.maps(3, 5):
            for land in ((), plain.let(chart)):
                self.assertEqual(areas.felt_areas(chart, land), ())
                self.assertEqual(areas.fewest_areas(chart, land), ())
                self.assertIs(areas.are_enough(chart, land, ()), True)


if __name__ == "__main__":
    unittest.main()
