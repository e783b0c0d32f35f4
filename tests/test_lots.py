"""LOTS and steps of plans.py beside a plain look: all LOTS of a few LET SPOTS, and walks between them."""

import unittest

from landpoints import plans
from tests import grounds, plain

# MAPS of none, one, two, three, four and five LET SPOTS.
FEW = (((), ((),)), ((), ()), (("a",), ()), (("a", "b"), ((("a", True), ("b", False)),)), (("a", "b"), ()),
       (("a", "b", "c"), ((("a", True), ("b", False)), (("a", True), ("c", True)))))


class Lots(unittest.TestCase):
    def test_least_lots(self):
        for chart in grounds.maps(3, 3) + grounds.great_maps()[:3]:
            let = plain.let(chart)
            pool = grounds.some_cuts(chart[0], 9)
            for many in range(7):
                cuts = tuple(pool[many:] + pool[:many])[:many]
                found = plans.least_lots(chart, cuts)
                self.assertEqual(tuple(sorted(spot for lot in found for spot in lot)), let)
                lands = [plain.land(chart, cut) for cut in cuts]
                homes = {spot: lot for lot in found for spot in lot}
                for one in let:
                    for other in let:
                        alike = all((one in land) == (other in land) for land in lands)
                        self.assertIs(homes[one] == homes[other], alike)

    def test_least_lots_are_as_few_as_can_be(self):
        for chart in FEW:
            every = plain.all_lots(plain.let(chart))
            for cuts in (grounds.some_cuts(chart[0], 5)[at:at + 3] for at in range(4)):
                lands = [plain.land(chart, cut) for cut in cuts]
                fit = [lots for lots in every if all(plain.is_made_up(lots, land) for land in lands)]
                fewest = min(len(lots) for lots in fit)
                found = plans.least_lots(chart, tuple(cuts))
                self.assertEqual([found], [lots for lots in fit if len(lots) == fewest])

    def test_least_lots_of_no_cuts(self):
        self.assertEqual(plans.least_lots((("a",), ()), ()), ((((), ("a",))),))
        self.assertEqual(plans.least_lots(((), ((),)), ()), ())
        self.assertEqual(plans.least_lots((("a",), ()), ((), ((),))), ((((), ("a",))),))

    def test_two_lots(self):
        for chart in FEW:
            every = plain.all_lots(plain.let(chart))
            finer = {one: {other for other in every if plain.is_finer(other, one)} for one in every}
            coarser = {one: {other for other in every if plain.is_finer(one, other)} for one in every}
            for near in every:
                for far in every:
                    self.assertIs(plans.are_finer(near, far), near in finer[far])
                    common, joined = finer[near] & finer[far], coarser[near] & coarser[far]
                    fewest, most = min(len(lots) for lots in common), max(len(lots) for lots in joined)
                    self.assertEqual([plans.common_lots(near, far)], [lots for lots in common if len(lots) == fewest])
                    self.assertEqual([plans.joined_lots(near, far)], [lots for lots in joined if len(lots) == most])


class Steps(unittest.TestCase):
    def test_fewest_steps(self):
        for chart in FEW:
            for near in plain.all_lots(plain.let(chart)):
                for far, many in plain.distances(near).items():
                    self.assertEqual(plans.fewest_steps(near, far), many)
                    joined = plans.joined_lots(near, far)
                    self.assertEqual(len(near) + len(far) - 2 * len(joined), many)

    def test_step_way(self):
        for chart in FEW:
            every = plain.all_lots(plain.let(chart))
            steps = {lots: plain.steps_from(lots) for lots in every}
            for near in every:
                for far in every:
                    way = plans.step_way(near, far)
                    self.assertEqual(way, plans.step_way(near, far))
                    self.assertEqual((way[0], way[-1], len(way)), (near, far, plans.fewest_steps(near, far) + 1))
                    for at in range(len(way) - 1):
                        self.assertIn(way[at + 1], steps[way[at]])
                    self.assertIs(plans.is_step_way(near, far, way), True)

    def test_step_way_of_many_spots(self):
        let = plain.subsets(("a", "b", "c", "d"))
        near = tuple((spot,) for spot in let)
        far = tuple(sorted(tuple(spot for spot in let if len(spot) % 3 == rest) for rest in range(3)))
        for one, other in ((near, far), (far, near), ((let,), near), (far, (let,))):
            way = plans.step_way(one, other)
            self.assertEqual(len(way), abs(len(one) - len(other)) + 1)
            self.assertIs(plans.is_step_way(one, other, way), True)

    def test_is_step_way_of_all_short_ways(self):
        chart = FEW[3]
        every = plain.all_lots(plain.let(chart))
        steps = {lots: plain.steps_from(lots) for lots in every}
        for near in every:
            for far in every:
                self.assertIs(plans.is_step_way(near, far, ()), False)
                for way in ([one] for one in every):
                    self.assertIs(plans.is_step_way(near, far, tuple(way)), way == [near] == [far])
                for way in ((one, other) for one in every for other in every):
                    self.assertIs(plans.is_step_way(near, far, way), way == (near, far) and far in steps[near])
                for middle in every:
                    wanted = middle in steps[near] and far in steps[middle]
                    self.assertIs(plans.is_step_way(near, far, (near, middle, far)), wanted)

    def test_is_step_way_of_whatever_length(self):
        near, far = ((((), ("a",))),), (((),), (("a",),))
        self.assertIs(plans.is_step_way(near, far, (near, far) * 3000), True)
        self.assertIs(plans.is_step_way(near, near, (near, far) * 3000 + (near,)), True)
        self.assertIs(plans.is_step_way(near, near, (near, far) * 3000), False)
        self.assertIs(plans.is_step_way(near, near, (near, near)), False)
        self.assertIs(plans.is_step_way(near, near, (near, far, far, near)), False)

    def test_is_step_way_of_two_steps_at_once(self):
        every = plain.all_lots(plain.let(FEW[4]))
        steps = {lots: plain.steps_from(lots) for lots in every}
        for near in every:
            for far in every:
                self.assertIs(plans.is_step_way(near, far, (near, far)), far in steps[near])

    def test_is_step_way_of_odd_things(self):
        near, far = (((), ("a",)), (("b",),)), (((),), (("a",), ("b",)))
        middle = (((),), (("a",),), (("b",),))
        self.look_at_variants(plain.all_lots(((), ("a",), ("b",))), near, middle, far)

    def test_is_step_way_of_odd_things_there_and_back(self):
        near = (((), ("a",), ("a", "b")), (("b",),))
        middle = (((), ("a",)), (("a", "b"),), (("b",),))
        self.look_at_variants(plain.all_lots(plain.let(FEW[4])), near, middle, near)

    def test_is_step_way_over_what_are_no_lots(self):
        """There and back by what would be steps, if each LET SPOT needed not be in just one of the LANDS."""
        near = (((), ("a",), ("a", "b")), (("b",),))
        twice = (((),), (("a",), ("a", "b"), ("b",)), (("b",),)), (((), ("a", "b")), (("a",), ("a", "b")), (("b",),))
        others = (((),), (("a",),), (("b",),)), (((), ("a",)), (("b",),), (("z",),)), ((), ((), ("a",)), (("b",),))
        for middle in twice + others:
            self.assertEqual(middle, tuple(sorted(middle)))
            self.assertIs(plans.is_step_way(near, near, (near, middle, near)), False)

    def look_at_variants(self, every, near, middle, far):
        steps = {lots: plain.steps_from(lots) for lots in every}
        self.assertIs(plans.is_step_way(near, far, (near, middle, far)), True)
        for thing in grounds.variants((near, middle, far)):
            wanted = isinstance(thing, tuple) and all(plain.is_among(lots, every) for lots in thing)
            wanted = wanted and thing[:1] == (near,) and thing[-1:] == (far,)
            wanted = wanted and all(thing[at + 1] in steps[thing[at]] for at in range(len(thing) - 1))
            self.assertIs(plans.is_step_way(near, far, thing), bool(wanted))

    def test_no_land(self):
        self.assertEqual(plans.fewest_steps((), ()), 0)
        self.assertEqual(plans.step_way((), ()), ((),))
        self.assertIs(plans.is_step_way((), (), ((),)), True)
        self.assertIs(plans.is_step_way((), (), ()), False)
        self.assertIs(plans.is_step_way((), (), ((), ())), False)
        self.assertEqual((plans.common_lots((), ()), plans.joined_lots((), ())), ((), ()))
        self.assertIs(plans.are_finer((), ()), True)

    def test_near_is_far(self):
        for chart in FEW:
            for lots in plain.all_lots(plain.let(chart)):
                self.assertEqual(plans.step_way(lots, lots), (lots,))
                self.assertEqual(plans.fewest_steps(lots, lots), 0)
                self.assertIs(plans.are_finer(lots, lots), True)


if __name__ == "__main__":
    unittest.main()
