"""is_spot and its kind, of things of all sorts, beside a look that goes through all SPOTS and CONDITIONS."""

import unittest
from itertools import product

from landpoints import areas, plans
from tests import grounds, plain

ODD_TEXTS = ("", "abcdefghi", "A", "aB", "a1", "1", "a b", " a", "a ", "a-", "a\n", "\n", "_", "a_", "{", "`", "@", "[",
             chr(228), chr(0x3b1), chr(0x661), "a" * 10 ** 6)
FINE_NAMES = ("a", "z", "abcdefgh", "zzzzzzzz", "aa")
NO_TUPLES = (None, True, False, 0, 1, -1, 10 ** 40, "", "a", "ab", [], [[]], ["a"])


def is_fine_name(thing):
    letters = "abcdefghijklmnopqrstuvwxyz"
    return type(thing) is str and 0 < len(thing) < 9 and set(thing) <= set(letters)


def is_set_among(thing, values):
    """Whether thing is an ascending tuple of some of the values, none twice."""
    if type(thing) is not tuple or not all(plain.is_among(member, values) for member in thing):
        return False
    return list(thing) == sorted(set(thing))


def is_fine_cut(names, thing):
    return is_set_among(thing, plain.all_conditions(names))


def is_fine_map(thing):
    if type(thing) is not tuple or len(thing) != 2 or type(thing[0]) is not tuple:
        return False
    if not all(is_fine_name(name) for name in thing[0]) or list(thing[0]) != sorted(set(thing[0])):
        return False
    return is_fine_cut(thing[0], thing[1])


def is_fine_point(chart, thing):
    if type(thing) is not tuple or len(thing) != 3:
        return False
    spot, size, first = thing
    return plain.is_among(spot, plain.let(chart)) and type(size) is int and size > 0 and is_fine_name(first)


def is_fine_world(chart, thing):
    return type(thing) is tuple and all(is_fine_point(chart, point) for point in thing)


def is_fine_row(thing):
    """Whether thing is a tuple of pairs that ascends by the NAMES that come first in them."""
    if type(thing) is not tuple or not all(type(pair) is tuple and len(pair) == 2 for pair in thing):
        return False
    names = [name for name, _ in thing]
    return all(is_fine_name(name) for name in names) and names == sorted(set(names))


def are_fine_parcels(chart, thing):
    return is_fine_row(thing) and all(is_fine_cut(chart[0], cut) for _, cut in thing)


def is_fine_lay(chart, thing):
    let = plain.let(chart)
    if not is_fine_row(thing) or not all(is_set_among(land, let) for _, land in thing):
        return False
    return all(sum(spot in land for _, land in thing) == 1 for spot in let)


class Things(unittest.TestCase):
    def look(self, tells, wanted, bases):
        """Compares both of each base, and of all that comes of it by one change."""
        fine = 0
        for base in bases:
            for thing in (base, *grounds.variants(base)):
                answer = tells(thing)
                self.assertIs(answer, wanted(thing), repr(thing)[:300])
                fine += answer
        self.assertGreater(fine, 0)

    def test_is_spot(self):
        for many in range(4):
            names = grounds.areas_of(many)
            self.look(lambda thing: areas.is_spot(names, thing),
                      lambda thing: plain.is_among(thing, plain.subsets(names)), plain.subsets(names))

    def test_is_condition(self):
        for many in range(4):
            names = grounds.areas_of(many)
            conditions = plain.all_conditions(names)
            self.look(lambda thing: areas.is_condition(names, thing),
                      lambda thing: plain.is_among(thing, conditions), conditions[::2] + conditions[-1:])

    def test_is_cut(self):
        for many in range(4):
            names = grounds.areas_of(many)
            self.look(lambda thing: areas.is_cut(names, thing), lambda thing: is_fine_cut(names, thing),
                      grounds.some_cuts(names, 4, 3))

    def test_is_map(self):
        bases = (((), ()), ((), ((),)), (("a",), ()), (("a", "b"), ((("a", True), ("b", False)),)),
                 (("a", "abcdefgh", "z"), ((("a", True),), (("a", True), ("z", False)), (("abcdefgh", False),))))
        self.look(areas.is_map, is_fine_map, bases)

    def test_is_land(self):
        for chart in grounds.maps(3, 3):
            self.look(lambda thing: areas.is_land(chart, thing),
                      lambda thing: is_set_among(thing, plain.let(chart)), grounds.lands(chart, 2))

    def test_is_world(self):
        for chart in grounds.maps(2, 4):
            let = plain.let(chart)
            world = tuple((spot, at + 1, "ann") for at, spot in enumerate(let))
            self.look(lambda thing: areas.is_world(chart, thing), lambda thing: is_fine_world(chart, thing),
                      ((), world[:2], world[-1:] * 2))

    def test_is_parcels(self):
        for chart in grounds.maps(2, 3)[::3]:
            self.look(lambda thing: plans.is_parcels(chart, thing), lambda thing: are_fine_parcels(chart, thing),
                      grounds.some_parcels(chart, 2))

    def test_is_lay(self):
        for chart in grounds.maps(2, 3)[::2]:
            for lots in plain.all_lots(plain.let(chart))[:3]:
                self.look(lambda thing: plans.is_lay(chart, thing), lambda thing: is_fine_lay(chart, thing),
                          (grounds.lay_from(chart, lots), grounds.lay_from(chart, lots)[:-1]))

    def test_names(self):
        for name in FINE_NAMES:
            self.assertIs(areas.is_map(((name,), ())), True, name)
            self.assertIs(areas.is_world(((), ()), (((), 1, name),)), True, name)
            self.assertIs(plans.is_parcels(((), ()), ((name, ()),)), True, name)
            self.assertIs(plans.is_lay(((), ((),)), ((name, ()),)), True, name)
        for name in ODD_TEXTS + (None, True, 0, 1, (), ["a"], ("a",)):
            self.assertIs(areas.is_map(((name,), ())), False, repr(name)[:30])
            self.assertIs(areas.is_world(((), ()), (((), 1, name),)), False, repr(name)[:30])
            self.assertIs(plans.is_parcels(((), ()), ((name, ()),)), False, repr(name)[:30])
            self.assertIs(plans.is_lay(((), ((),)), ((name, ()),)), False, repr(name)[:30])

    def test_no_tuples(self):
        chart = (("a",), ())
        tests = (lambda thing: areas.is_spot(("a",), thing), lambda thing: areas.is_condition(("a",), thing),
                 lambda thing: areas.is_cut(("a",), thing), areas.is_map,
                 lambda thing: areas.is_land(chart, thing), lambda thing: areas.is_world(chart, thing),
                 lambda thing: plans.is_parcels(chart, thing), lambda thing: plans.is_lay(chart, thing),
                 lambda thing: plans.is_plan_paper(chart, (), thing),
                 lambda thing: plans.is_step_way((((), ("a",)),), (((), ("a",)),), thing))
        for tells in tests:
            for thing in NO_TUPLES:
                self.assertIs(tells(thing), False, repr(thing))

    def test_numbers_and_truths(self):
        chart = ((), ())
        for size in (1, 2, 10 ** 30, 10 ** 3000):
            self.assertIs(areas.is_world(chart, (((), size, "ann"),)), True)
        for size in (0, -1, -10 ** 3000, True, False, None, "1", (), (1,), [1]):
            self.assertIs(areas.is_world(chart, (((), size, "ann"),)), False, repr(size)[:30])
        for inside in (True, False):
            self.assertIs(areas.is_condition(("a",), (("a", inside),)), True)
        for inside in (1, 0, None, "", "True", (), (True,), [True]):
            self.assertIs(areas.is_condition(("a",), (("a", inside),)), False, repr(inside))

    def test_deep_nesting(self):
        deep = grounds.nested(11)
        chart = (("a",), ())
        for thing in (deep, (deep,), (deep, deep), (((), 1, deep),), ((deep, 1, "ann"),), (("a", deep),),
                      ((deep, True),)):
            for answer in (areas.is_spot(("a",), thing), areas.is_condition(("a",), thing), areas.is_cut(("a",), thing),
                           areas.is_map(thing), areas.is_land(chart, thing), areas.is_world(chart, thing),
                           plans.is_parcels(chart, thing), plans.is_lay(chart, thing),
                           plans.is_plan_paper(chart, (), thing), plans.is_step_way((), (), thing)):
                self.assertIs(answer, False)


class ManyMembers(unittest.TestCase):
    names = tuple("".join(letters) for letters in product("abcdefghijklmnopqrstuvwxyz", repeat=3))

    def test_all_conditions_of_five_areas(self):
        names = grounds.areas_of(5)
        cut = plain.all_conditions(names)
        self.assertEqual(len(cut), 243)
        self.assertIs(areas.is_cut(names, cut), True)
        self.assertIs(areas.is_map((names, cut)), True)
        self.assertIs(areas.is_cut(names, cut + cut[-1:]), False)

    def test_many_areas_and_conditions(self):
        bare = tuple(((name, True),) for name in self.names)
        self.assertIs(areas.is_map((self.names, bare)), True)
        self.assertIs(areas.is_map((self.names, bare[:-1] + bare[-1:] * 2)), False)
        self.assertIs(areas.is_map((self.names[:-1], bare)), False)
        self.assertIs(areas.is_map((self.names + ("a",), ())), False)
        self.assertIs(areas.is_map((self.names, (tuple((name, False) for name in self.names),))), True)

    def test_many_points(self):
        world = ((("a",), 7, "ann"), ((), 10 ** 40, "bob")) * 5000
        self.assertIs(areas.is_world((("a",), ()), world), True)
        self.assertIs(areas.is_world((("a",), ()), world + (((), 0, "bob"),)), False)
        self.assertIs(areas.is_world((("a",), ((("a", True),),)), world), False)
        self.assertIs(plans.is_plan_paper((("a",), ()), (("all", ((),)),), world), False)
        self.assertIs(plans.is_plan_paper((("a",), ()), (("all", ((("a", False),),)),), world), True)

    def test_many_parcels(self):
        parcels = tuple((name, ((("a", True),),)) for name in self.names)
        self.assertIs(plans.is_parcels((("a",), ()), parcels), True)
        self.assertIs(plans.is_parcels((("a",), ()), parcels[::-1]), False)
        lay = tuple((name, ()) for name in self.names) + (("zzzz", ((), ("a",))),)
        self.assertIs(plans.is_lay((("a",), ()), lay), True)
        self.assertIs(plans.is_lay((("a",), ()), lay[:-1]), False)
        self.assertIs(plans.is_lay((("a",), ()), (("a", (("a",),)),) + lay), False)


if __name__ == "__main__":
    unittest.main()
