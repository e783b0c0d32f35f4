"""The general rules: lists for tuples, arguments by name, nothing changed, the same call again; and the interface."""

import inspect
import unittest
from copy import deepcopy

from landpoints import areas, plans
from tests.calls import IN_AREAS, IN_PLANS
from tests.plain import same

CALLS = [(areas, name, given) for name, given in IN_AREAS] + [(plans, name, given) for name, given in IN_PLANS]

LISTED = {
    areas: "is_spot is_condition is_cut is_map is_land is_world spots_of keeps is_in let_spots land_of are_alike "
           "lies_within both_cuts size_in plain_cut with_bare without_bare with_within with_apart with_all is_surveyed "
           "needless with_area without_area renamed renamed_cut felt_areas are_enough fewest_areas".split(),
    plans: "is_parcels left_out doubled clashing is_plan plan_paper is_plan_paper lay_of surveys_wanted is_lay "
           "parcel_at split_off merged made_of lots_of least_lots are_finer common_lots joined_lots fewest_steps "
           "step_way is_step_way".split(),
}


def as_lists(value, depth=None):
    """The value with lists for tuples: at all depths, or at this one alone."""
    if not isinstance(value, (list, tuple)):
        return value
    deeper = None if depth is None else depth - 1
    parts = [as_lists(part, deeper) for part in value]
    return parts if depth in (None, 0) or isinstance(value, list) else tuple(parts)


def has_list(value):
    return isinstance(value, list) or isinstance(value, tuple) and any(has_list(part) for part in value)


def outcome(function, *values, **named):
    """What comes of the call: its result, or the class and the values of its error."""
    try:
        return "result", function(*values, **named)
    except (LookupError, ValueError) as error:
        return type(error).__name__, tuple(vars(error).items())


def with_lists(given):
    """The arguments with lists for tuples, in several ways; thing is left as it is."""
    for depth in (None, 0, 1, 2, 3, 4, 5):
        yield {name: value if name == "thing" else as_lists(value, depth) for name, value in given.items()}
    for only in given:
        yield {name: as_lists(value) if name == only != "thing" else value for name, value in given.items()}


class Calls(unittest.TestCase):
    def each_call(self):
        for module, name, given in CALLS:
            with self.subTest(name=name, given=given):
                yield getattr(module, name), given

    def test_by_place_and_by_name(self):
        for function, given in self.each_call():
            wanted = outcome(function, *given.values())
            self.assertTrue(same(outcome(function, **given), wanted))
            self.assertTrue(same(outcome(function, **dict(reversed(given.items()))), wanted))

    def test_lists_for_tuples(self):
        for function, given in self.each_call():
            wanted = outcome(function, *given.values())
            for other in with_lists(given):
                self.assertTrue(same(outcome(function, **other), wanted), other)

    def test_no_lists_come_back(self):
        for function, given in self.each_call():
            for other in with_lists(given):
                self.assertFalse(has_list(outcome(function, **other)[1]))

    def test_arguments_are_not_changed(self):
        for function, given in self.each_call():
            for other in with_lists(given):
                kept = deepcopy(other)
                outcome(function, **other)
                self.assertTrue(all(same(other[name], kept[name]) for name in kept), other)

    def test_the_same_call_again(self):
        for function, given in self.each_call():
            wanted = outcome(function, **given)
            for other in with_lists(given):
                first = outcome(function, **other)
                self.assertTrue(same(first, outcome(function, **other)) and same(first, wanted), other)

    def test_each_function_is_called(self):
        called = {(module, name) for module, name, _ in CALLS}
        self.assertEqual(called, {(module, name) for module, names in LISTED.items() for name in names})


class Interface(unittest.TestCase):
    def test_defined_where_listed(self):
        self.assertEqual([len(names) for names in LISTED.values()], [30, 22])
        for module, names in LISTED.items():
            for name in names:
                with self.subTest(name=name):
                    self.assertTrue(inspect.isfunction(getattr(module, name)))
                    self.assertEqual(getattr(module, name).__module__, module.__name__)

    def test_arguments(self):
        for module, name, given in CALLS:
            with self.subTest(name=name):
                told = inspect.signature(getattr(module, name)).parameters.values()
                self.assertEqual([one.name for one in told], list(given))
                self.assertEqual({one.kind for one in told}, {inspect.Parameter.POSITIONAL_OR_KEYWORD})
                self.assertEqual({one.default for one in told}, {inspect.Parameter.empty})


if __name__ == "__main__":
    unittest.main()
