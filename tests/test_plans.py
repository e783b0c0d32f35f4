"""Plans and LAYS of plans.py beside a plain look."""

import unittest

from landpoints import plans
from landpoints.areas import is_world
from tests import grounds, plain


def charts_and_parcels():
    for chart in grounds.maps(3, 5) + grounds.great_maps()[:3]:
        for parcels in grounds.some_parcels(chart, 10):
            yield chart, parcels


def charts_and_plans():
    for chart, parcels in charts_and_parcels():
        if plain.is_plan(chart, parcels):
            yield chart, parcels


def lay_told(chart, parcels):
    return tuple((name, plain.land(chart, cut)) for name, cut in parcels)


class Plans(unittest.TestCase):
    def test_there_are_plans_and_others(self):
        told = [plain.is_plan(chart, parcels) for chart, parcels in charts_and_parcels()]
        self.assertGreater(told.count(True), 100)
        self.assertGreater(told.count(False), 100)

    def test_beside_the_look(self):
        for chart, parcels in charts_and_parcels():
            let = plain.let(chart)
            many = {spot: len(plain.homes(parcels, spot)) for spot in let}
            self.assertIs(plans.is_parcels(chart, parcels), True)
            self.assertEqual(plans.left_out(chart, parcels), tuple(spot for spot in let if many[spot] == 0))
            self.assertEqual(plans.doubled(chart, parcels), tuple(spot for spot in let if many[spot] >= 2))
            self.assertEqual(plans.clashing(chart, parcels), plain.clashing(chart, parcels))
            self.assertIs(plans.is_plan(chart, parcels), plain.is_plan(chart, parcels))

    def test_no_parcels(self):
        for chart in grounds.maps(2, 5):
            let = plain.let(chart)
            self.assertEqual(plans.left_out(chart, ()), let)
            self.assertEqual(plans.doubled(chart, ()), ())
            self.assertEqual(plans.clashing(chart, ()), ())
            self.assertIs(plans.is_plan(chart, ()), not let)
        self.assertEqual(plans.lay_of(((), ((),)), ()), ())
        self.assertEqual(plans.surveys_wanted(((), ((),)), ()), ((),))

    def test_a_parcel_without_land(self):
        chart = (("a",), ())
        parcels = (("all", ((),)), ("none", ()))
        self.assertIs(plans.is_plan(chart, parcels), True)
        self.assertEqual(plans.lay_of(chart, parcels), (("all", ((), ("a",))), ("none", ())))
        self.assertEqual(plans.clashing(chart, (("all", ((),)), ("none", ()), ("other", ((),)))), (("all", "other"),))

    def test_papers(self):
        for chart, parcels in charts_and_parcels():
            paper = plans.plan_paper(chart, parcels)
            self.assertEqual(paper, plans.plan_paper(chart, parcels))
            if plain.is_plan(chart, parcels):
                self.assertIsNone(paper)
                continue
            self.assertIs(is_world(chart, paper), True)
            self.assertEqual(len(paper), 1)
            self.assertNotEqual(len(plain.homes(parcels, paper[0][0])), 1)
            self.assertIs(plans.is_plan_paper(chart, parcels, paper), True)

    def test_is_plan_paper(self):
        for chart, parcels in charts_and_parcels():
            fair = []
            for spot in plain.subsets(chart[0]):
                world = ((spot, 3, "ann"),)
                wrong = spot in plain.let(chart) and len(plain.homes(parcels, spot)) != 1
                self.assertIs(plans.is_plan_paper(chart, parcels, world), wrong)
                if spot in plain.let(chart) and not wrong:
                    fair.append((spot, 1, "bob"))
            self.assertIs(plans.is_plan_paper(chart, parcels, ()), False)
            self.assertIs(plans.is_plan_paper(chart, parcels, tuple(fair)), False)
            paper = plans.plan_paper(chart, parcels)
            if paper is not None:
                self.assertIs(plans.is_plan_paper(chart, parcels, tuple(fair * 20) + paper), True)
                self.assertIs(plans.is_plan_paper(chart, parcels, paper + tuple(fair)), True)

    def test_is_plan_paper_of_odd_things(self):
        chart, parcels = (("a", "b"), ((("a", True), ("b", False)),)), (("east", ((("a", True),),)),)
        for thing in grounds.variants(((("b",), 3, "ann"), (("a", "b"), 1, "bob"))):
            spots = [spot for spot in ((), ("b",)) if is_world(chart, thing) and spot in [point[0] for point in thing]]
            self.assertIs(plans.is_plan_paper(chart, parcels, thing), bool(spots))

    def test_lays_and_surveys_wanted(self):
        for chart, parcels in charts_and_plans():
            lay = plans.lay_of(chart, parcels)
            self.assertEqual(lay, lay_told(chart, parcels))
            self.assertIs(plans.is_lay(chart, lay), True)
            self.assertEqual(plans.surveys_wanted(chart, parcels), plain.surveys_wanted(chart, parcels))

    def test_surveys_wanted_of_more_than_one(self):
        chart = (("a", "b"), ((("a", False), ("b", False)), (("a", True), ("b", True)), (("b", False),)))
        parcels = (("east", ((("a", True),),)), ("west", ((("b", True),),)))
        self.assertEqual(plans.surveys_wanted(chart, parcels), ((("a", True), ("b", True)),))
        self.assertEqual(plans.surveys_wanted((chart[0], chart[1][:2]), parcels), chart[1][:2])


class Lays(unittest.TestCase):
    def test_parcel_at(self):
        for chart, parcels in charts_and_plans():
            lay = lay_told(chart, parcels)
            for spot in plain.subsets(chart[0] + ("z",)):
                homes = [name for name, land in lay if spot in land]
                self.assertEqual(plans.parcel_at(lay, spot), homes[0] if homes else None)

    def test_split_off(self):
        for chart, parcels in charts_and_plans():
            lay = lay_told(chart, parcels)
            for name, land in lay:
                for new in ("aa", "fox", "zz"):
                    for cut in grounds.some_cuts(chart[0], 3):
                        inner = tuple(spot for spot in land if plain.is_in(spot, cut))
                        outer = tuple(spot for spot in land if not plain.is_in(spot, cut))
                        wanted = {**dict(lay), name: outer, new: inner}
                        found = plans.split_off(lay, name, new, cut)
                        self.assertEqual(found, tuple(sorted(wanted.items())))
                        self.assertIs(plans.is_lay(chart, found), True)

    def test_merged(self):
        for chart, parcels in charts_and_plans():
            lay = lay_told(chart, parcels)
            for one, near in lay:
                for other, far in lay:
                    if one != other:
                        wanted = {**dict(lay), one: tuple(sorted(near + far))}
                        del wanted[other]
                        found = plans.merged(lay, one, other)
                        self.assertEqual(found, tuple(sorted(wanted.items())))
                        self.assertIs(plans.is_lay(chart, found), True)

    def test_made_of(self):
        none = 0
        for chart, parcels in charts_and_plans():
            lay = lay_told(chart, parcels) + (("zoo", ()),)
            for cut in grounds.some_cuts(chart[0], 6) + [cut for _, cut in parcels]:
                wanted = plain.made_of(lay, cut)
                self.assertEqual(plans.made_of(lay, cut), wanted)
                none += wanted is None
        self.assertGreater(none, 50)

    def test_made_of_no_land_and_all_land(self):
        lay = (("east", ((), ("b",))), ("void", ()), ("west", (("a",),)))
        self.assertEqual(plans.made_of(lay, ()), ())
        self.assertEqual(plans.made_of(lay, ((),)), ("east", "west"))
        self.assertEqual(plans.made_of((), ((),)), ())
        self.assertIsNone(plans.made_of(lay, ((("b", True),),)))

    def test_lots_of(self):
        for chart, parcels in charts_and_plans():
            lay = lay_told(chart, parcels)
            self.assertEqual(plans.lots_of(lay), tuple(sorted(land for _, land in lay if land)))
        self.assertEqual(plans.lots_of(()), ())
        self.assertEqual(plans.lots_of((("a", ()), ("b", ()))), ())
        self.assertEqual(plans.lots_of((("a", (("x",),)), ("b", ((),)))), (((),), (("x",),)))


if __name__ == "__main__":
    unittest.main()
