"""The general rules: lists for tuples, arguments by name, nothing changed, the same call again; and the interface."""

import inspect
import unittest
from copy import deepcopy

from landpoints import areas, charges, desk, joins, judge, offices, orders, plans, rents, searches, texts, titles, ways
from landpoints import wholes, wrongs
from tests import calls, deed_calls, late_calls
from tests.plain import same

GROUPS = {areas: calls.IN_AREAS, plans: calls.IN_PLANS, titles: deed_calls.IN_TITLES, searches: deed_calls.IN_SEARCHES,
          ways: deed_calls.IN_WAYS, wrongs: deed_calls.IN_WRONGS, charges: deed_calls.IN_CHARGES,
          wholes: deed_calls.IN_WHOLES, orders: deed_calls.IN_ORDERS, offices: late_calls.IN_OFFICES,
          joins: late_calls.IN_JOINS, rents: late_calls.IN_RENTS, judge: late_calls.IN_JUDGE,
          texts: late_calls.IN_TEXTS, desk: late_calls.IN_DESK}
CALLS = [(module, name, given) for module, group in GROUPS.items() for name, given in group]
# Their results are lists.
LISTS = ("healed", "guesses", "let_orders", "loosest_waits", "joined_in", "joinable_lots", "replies")

LISTED = {
    areas: "is_spot is_condition is_cut is_map is_land is_world spots_of keeps is_in let_spots land_of are_alike "
           "lies_within both_cuts size_in plain_cut with_bare without_bare with_within with_apart with_all is_surveyed "
           "needless with_area without_area renamed renamed_cut felt_areas are_enough fewest_areas".split(),
    plans: "is_parcels left_out doubled clashing is_plan plan_paper is_plan_paper lay_of surveys_wanted is_lay "
           "parcel_at split_off merged made_of lots_of least_lots are_finer common_lots joined_lots fewest_steps "
           "step_way is_step_way".split(),
    titles: "is_deed is_history people_in stranger_to owners_along owner_behind first_owners sure_land maybe_land "
            "unsettled_land passed_land surely_has title_paper is_title_paper felt_land idle_deeds wanted_land "
            "same_titles parted_land parted_world is_parted_world can_go fewest_deeds is_passing makes fewest_to_make "
            "making is_making".split(),
    searches: "is_view is_filling unseen_places seen_at with_taker sure_owner may_own land_sure_of unsure_land chain "
              "least_search is_search unsure_paper is_unsure_paper next_looks searched ever_looked most_looks "
              "saved_looks left_behind".split(),
    ways: "way_behind way_along ways_in goes_in ended_in all_may_go no_go is_no_go may_go none_has_way a_way is_a_way "
          "served borne can_cross sure_cross ending_deeds idle_ways same_ways unlike_ways is_unlike_ways".split(),
    wrongs: "struck wrong_land wrong_behind healed do_otherwise wrong_paper is_wrong_paper fewest_struck can_own "
            "doubt_land settled_land mattering doubt_paper is_doubt_paper fewest_proofs moved late_land latest "
            "earliest".split(),
    charges: "charges_in charges_behind charge_table charge_land ahead_land rank_land worst_rank charges_part "
             "charges_alike idle_charges must_yield one_row charge_round is_charge_round".split(),
    wholes: "wholes_of played let_wholes owners_in ground can_come guesses fewest_points world_for is_world_for "
            "sure_wholes against_land idle_checks sure_behind maybe_behind same_owners fewest_split split_world "
            "is_split_world".split(),
    orders: "is_waits closed_waits is_order how_many_orders let_orders in_order waits_hold end_holds land_apart "
            "waits_paper is_waits_paper end_paper is_end_paper loosest_waits needed_waits".split(),
    offices: "is_offices is_question answer_at view is_own own_offices own_land office_paper is_office_paper is_enough "
             "fewest_asks needed_asks asks_behind next_ask most_asks are_together fewest_offices knows_as_much "
             "fewest_signs a_letter is_letter home_offices".split(),
    joins: "turned_land parting_land clash_land are_joinable joined_owner joined_in clash_paper is_clash_paper "
           "unlike_behind joinable_lots can_be_written written_join is_written_join".split(),
    rents: "is_rent is_sizes rate_at rent_in plan_rent never_less less_paper is_less_paper either_way neither_paper "
           "is_neither_paper has_sizes can_have greatest_size least_size great_world small_world".split(),
    judge: "is_promise is_paper holds a_paper paper_size wanted_points is_cut_paper what_falls surveys_under "
           "fewest_surveys deeds_under".split(),
    texts: "cut_text land_text map_text history_text world_text read_map read_cut read_land read_world "
           "read_history".split(),
    desk: "is_request replies".split(),
}


def as_lists(value, depth=None):
    """The value with lists for tuples: at all depths, or at this one alone."""
    if not isinstance(value, (list, tuple)):
        return value
    deeper = None if depth is None else depth - 1
    parts = [as_lists(part, deeper) for part in value]
    return parts if depth in (None, 0) or isinstance(value, list) else tuple(parts)


def has_list(value):
    return isinstance(value, list) or isinstance(value, tuple) and any(has_list(part) for part in value)


def outcome(function, *values, **named):
    """What comes of the call: its result, or the class and the values of its error."""
    try:
        return "result", function(*values, **named)
    except (LookupError, ValueError) as error:
        return type(error).__name__, tuple(vars(error).items())


def with_lists(given):
    """The arguments with lists for tuples, in several ways; thing is left as it is."""
    for depth in (None, 0, 1, 2, 3, 4, 5):
        yield {name: value if name == "thing" else as_lists(value, depth) for name, value in given.items()}
    for only in given:
        yield {name: as_lists(value) if name == only != "thing" else value for name, value in given.items()}


class Calls(unittest.TestCase):
    def each_call(self):
        for module, name, given in CALLS:
            with self.subTest(name=name, given=given):
                yield getattr(module, name), given

    def test_by_place_and_by_name(self):
        for function, given in self.each_call():
            wanted = outcome(function, *given.values())
            self.assertTrue(same(outcome(function, **given), wanted))
            self.assertTrue(same(outcome(function, **dict(reversed(given.items()))), wanted))

    def test_lists_for_tuples(self):
        for function, given in self.each_call():
            wanted = outcome(function, *given.values())
            for other in with_lists(given):
                self.assertTrue(same(outcome(function, **other), wanted), other)

    def test_no_lists_come_back(self):
        for function, given in self.each_call():
            for other in with_lists(given):
                result = outcome(function, **other)[1]
                if function.__name__ in LISTS and isinstance(result, list):
                    result = tuple(result)
                self.assertFalse(has_list(result))

    def test_returned_lists_are_new(self):
        """What a caller does to such a list shows in no other result."""
        seen = set()
        for function, given in self.each_call():
            if function.__name__ in LISTS:
                kind, first = outcome(function, **given)
                if kind != "result":
                    continue
                wanted = deepcopy(first)
                self.assertIs(type(first), list)
                self.assertIsNot(function(**given), first)
                first.append("more")
                first.reverse()
                self.assertEqual(function(**given), wanted)
                seen.add(function.__name__)
        self.assertEqual(seen, set(LISTS))

    def test_arguments_are_not_changed(self):
        for function, given in self.each_call():
            for other in with_lists(given):
                kept = deepcopy(other)
                outcome(function, **other)
                self.assertTrue(all(same(other[name], kept[name]) for name in kept), other)

    def test_the_same_call_again(self):
        for function, given in self.each_call():
            wanted = outcome(function, **given)
            for other in with_lists(given):
                first = outcome(function, **other)
                self.assertTrue(same(first, outcome(function, **other)) and same(first, wanted), other)

    def test_each_function_is_called(self):
        called = {(module, name) for module, name, _ in CALLS}
        self.assertEqual(called, {(module, name) for module, names in LISTED.items() for name in names})


class Interface(unittest.TestCase):
    def test_defined_where_listed(self):
        self.assertEqual([len(names) for names in LISTED.values()],
                         [30, 22, 28, 20, 21, 19, 14, 19, 15, 22, 13, 17, 11, 10, 2])
        for module, names in LISTED.items():
            for name in names:
                with self.subTest(name=name):
                    self.assertTrue(inspect.isfunction(getattr(module, name)))
                    self.assertEqual(getattr(module, name).__module__, module.__name__)

    def test_arguments(self):
        for module, name, given in CALLS:
            with self.subTest(name=name):
                told = inspect.signature(getattr(module, name)).parameters.values()
                self.assertEqual([one.name for one in told], list(given))
                self.assertEqual({one.kind for one in told}, {inspect.Parameter.POSITIONAL_OR_KEYWORD})
                self.assertEqual({one.default for one in told}, {inspect.Parameter.empty})


if __name__ == "__main__":
    unittest.main()
