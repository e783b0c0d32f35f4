"""The errors that the functions raise: which one, with which values, which one first, for which of several strings."""

import unittest

from landpoints import areas, plans
from landpoints.errors import Known, NoArea, NoParcel, Unfit

CHART = (("a", "b", "c"), ((("a", True), ("b", False)), (("a", True), ("c", True))))
LAY = (("east", ((), ("c",))), ("north", (("a", "b"),)), ("void", ()), ("west", (("b",), ("b", "c"))))
NO_AREAS = ("x", "", "A", "a b", "abcdefghi", "ab", "-", "*")


class Raises(unittest.TestCase):
    def raises(self, error, kept, function, *values):
        """Told by the very class: an error of another class, also one below it, is none of these."""
        with self.subTest(function=function.__name__, values=values):
            with self.assertRaises(error) as caught:
                function(*values)
            self.assertIs(type(caught.exception), error)
            self.assertEqual(vars(caught.exception), kept)

    def no_area(self, name, function, *values):
        self.raises(NoArea, {"name": name}, function, *values)


class OfAreas(Raises):
    def test_no_area(self):
        for name in NO_AREAS:
            self.no_area(name, areas.with_within, CHART, name, "a")
            self.no_area(name, areas.with_within, CHART, "a", name)
            self.no_area(name, areas.with_apart, CHART, name, "a")
            self.no_area(name, areas.with_apart, CHART, "a", name)
            self.no_area(name, areas.with_all, CHART, (name,))
            self.no_area(name, areas.without_area, CHART, name)
            self.no_area(name, areas.are_enough, CHART, (), (name,))

    def test_no_area_of_no_areas(self):
        for name in ("a", ""):
            self.no_area(name, areas.with_all, ((), ()), (name,))
            self.no_area(name, areas.without_area, ((), ((),)), name)
            self.no_area(name, areas.with_apart, ((), ()), name, name)

    def test_the_first_of_several_strings(self):
        self.no_area("y", areas.with_within, CHART, "y", "x")
        self.no_area("y", areas.with_apart, CHART, "y", "x")
        self.no_area("y", areas.with_all, CHART, ("c", "y", "a", "x"))
        self.no_area("y", areas.with_all, CHART, ["y", "x", "y"])
        self.no_area("y", areas.are_enough, CHART, (("b",),), ("c", "y", "a", "x"))
        self.no_area("x", areas.are_enough, CHART, [["b"]], ["x", "y", "a"])

    def test_no_area_ahead_of_unfit(self):
        self.no_area("x", areas.with_within, CHART, "x", "x")
        self.no_area("x", areas.with_apart, CHART, "x", "x")
        self.no_area("x", areas.without_area, (("a",), ((("a", True),),)), "x")

    def test_the_same_area_twice(self):
        for name in CHART[0]:
            self.raises(Unfit, {}, areas.with_within, CHART, name, name)
            self.raises(Unfit, {}, areas.with_apart, CHART, name, name)

    def test_without_bare(self):
        for condition in ((), (("a", True),), (("a", True), ("b", True)), (("a", True), ("b", False), ("c", True))):
            self.raises(Unfit, {}, areas.without_bare, CHART, condition)
        self.raises(Unfit, {}, areas.without_bare, ((), ()), ())
        self.assertEqual(areas.without_bare(((), ((),)), ()), ((), ()))

    def test_with_area_that_is_there(self):
        for name in CHART[0]:
            self.raises(Known, {"name": name}, areas.with_area, CHART, name)
        self.assertEqual(areas.with_area(((), ()), "a"), (("a",), ()))

    def test_without_area_that_the_survey_names(self):
        for name in CHART[0]:
            self.raises(Unfit, {}, areas.without_area, CHART, name)
        self.raises(Unfit, {}, areas.without_area, (("a", "b"), ((), (("b", False),))), "b")
        self.assertEqual(areas.without_area((("a", "b"), ((), (("b", False),))), "a"), (("b",), ((), (("b", False),))))

    def test_renamed_to_one_name(self):
        for pairs in ((("a", "b"),), (("a", "z"), ("b", "z")), (("b", "c"), ("a", "b")), (("q", "r"), ("c", "a"))):
            self.raises(Unfit, {}, areas.renamed, CHART, pairs)
        self.assertEqual(areas.renamed(CHART, (("q", "a"), ("r", "a"))), CHART)
        self.assertEqual(areas.renamed(CHART, (("a", "a"),)), CHART)


class OfPlans(Raises):
    def test_no_plan(self):
        chart = (("a",), ())
        for parcels in ((), (("all", ((("a", True),),)),), (("all", ((),)), ("more", ((("a", False),),)))):
            self.raises(Unfit, {}, plans.lay_of, chart, parcels)
            self.raises(Unfit, {}, plans.surveys_wanted, chart, parcels)

    def test_no_parcel(self):
        for name in NO_AREAS + ("eas",):
            self.raises(NoParcel, {"name": name}, plans.split_off, LAY, name, "fen", ((),))
            self.raises(NoParcel, {"name": name}, plans.merged, LAY, name, "east")
            self.raises(NoParcel, {"name": name}, plans.merged, LAY, "east", name)
            self.raises(NoParcel, {"name": name}, plans.merged, (), name, name)

    def test_no_parcel_is_first(self):
        self.raises(NoParcel, {"name": "y"}, plans.merged, LAY, "y", "x")
        self.raises(NoParcel, {"name": "x"}, plans.merged, LAY, "x", "x")
        self.raises(NoParcel, {"name": "x"}, plans.split_off, LAY, "x", "east", ())
        self.raises(NoParcel, {"name": "x"}, plans.split_off, LAY, "x", "x", ())

    def test_new_parcel_that_is_there(self):
        for name, _ in LAY:
            self.raises(Known, {"name": name}, plans.split_off, LAY, "east", name, ())
            self.raises(Known, {"name": name}, plans.split_off, LAY, "void", name, ((),))

    def test_the_same_parcel_twice(self):
        for name, _ in LAY:
            self.raises(Unfit, {}, plans.merged, LAY, name, name)


if __name__ == "__main__":
    unittest.main()
