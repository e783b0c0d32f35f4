"""Orders beside a plain look: all let ORDERS and all runs of the same DEEDS, in WORLDS of one and two POINTS."""

import unittest
from itertools import combinations, permutations, product
from random import Random

from landpoints import orders
from landpoints.errors import Unfit
from tests import histories, plain, plain_deeds

TITLES = ("give", "give", "vest", "swap", "charge", "charge", "lift", "yield")
WAYS = ("way", "way", "end", "give", "vest", "charge")
PEOPLE, CHARGES = ("ann", "bob", "cid"), ("debt", "loan")


def some_cases(name, many, longest, words, spots):
    """MAPS of few LET SPOTS, and HISTORIES whose DEEDS lie upon another; among them () and one DEED."""
    chosen = Random(name)
    found = [(((), ()), ()), ((("a",), ((),)), (("vest", "ann", ((),)),))]
    while len(found) < many:
        chart = histories.some_charts(chosen, 2)
        cuts = [((),)] * 3 + [(condition,) for condition in plain.all_conditions(chart[0])]
        if len(plain.let(chart)) <= spots:
            names = (PEOPLE, CHARGES) if chosen.random() < 0.7 else (histories.SHORT[:3], histories.SHORT[:2])
            found.append((chart, tuple(histories.some_deed(chosen, chosen.choice(words), cuts, *names)
                                       for _ in range(min(longest, chosen.choice((1, 2, 3, 3, 4, 4, 5)))))))
    return found


def title_cases(name, many, longest=4):
    return (some_cases(name, many // 2, longest, TITLES, 4)
            + some_cases(name + "'s charges", many // 2, longest, ("charge", "charge", "lift", "yield"), 4))


def way_cases(name, many, longest=4, spots=2):
    """With way deeds, on MAPS of few LET SPOTS."""
    return some_cases(name, many, longest, WAYS, spots)


def cases(name, many):
    return title_cases(name, many) + way_cases(name, many // 3)


def pairs_of(history):
    return tuple(combinations(range(len(history)), 2))


def lets(waits, order):
    """Whether in the run each one stands ahead of its other, wherever this one stands."""
    return all(one in order[:order.index(other)] for one, other in waits if other in order)


def runs_of(history, waits):
    """All runs that the WAITS let, by the sets of their places."""
    found = {}
    for many in range(len(history) + 1):
        for run in permutations(range(len(history)), many):
            if lets(waits, run):
                found.setdefault(tuple(sorted(run)), []).append(run)
    return found


class Outcomes:
    """What each run leads to, in all WORLDS of one POINT, and with a way deed of two."""

    def __init__(self, chart, history):
        firsts = sorted({*plain_deeds.people(history), "xan", "yul"})
        self.singles = list(plain_deeds.worlds(chart, 1, firsts))
        ways = any(deed[0] in ("way", "end") for deed in history)
        self.doubles = list(plain_deeds.worlds(chart, 2, firsts)) if ways else []
        self.history, self.told = history, {}

    def of(self, run):
        """What it leads to, told by the SPOTS that it is told of."""
        if run not in self.told:
            deeds = tuple(self.history[place] for place in run)
            found = []
            for world in self.singles:
                state = plain_deeds.end(deeds, world)
                found.append(((world[0][0],), (state.owners, state.rows)))
            for world in self.doubles:
                found.append(((world[0][0], world[1][0]), (0, 1) in plain_deeds.end(deeds, world).ways))
            self.told[run] = found
        return self.told[run]

    def apart(self, runs):
        """The SPOTS of the POINTS that come to unlike things by two of these runs."""
        first = self.of(runs[0])
        return {spot for run in runs[1:] for (spots, one), (_, other) in zip(first, self.of(run)) if one != other
                for spot in spots}

    def land_apart(self, waits):
        found = set()
        for runs in runs_of(self.history, waits).values():
            found |= self.apart(runs)
        return tuple(sorted(found))

    def end_apart(self, waits):
        return self.apart(runs_of(self.history, waits)[tuple(range(len(self.history)))])


def unlike(history, world, one, other):
    near, far = (plain_deeds.end([history[place] for place in run], world) for run in (one, other))
    return near.same() != far.same()


def some_waits(chosen, history, many=3):
    """The WAITS (), all pairs, and some between."""
    pairs = pairs_of(history)
    found = {(), pairs}
    for _ in range(many):
        found.add(tuple(sorted(chosen.sample(pairs, chosen.randint(0, len(pairs))))))
    return sorted(found)


class Waits(unittest.TestCase):
    def test_all_waits_of_four(self):
        history = (("vest", "ann", ((),)),) * 4
        for many in range(5):
            deeds = history[:many]
            for waits in plain.subsets(pairs_of(deeds)):
                self.assertIs(orders.is_waits(deeds, waits), True)
                let = [order for order in permutations(range(many)) if lets(waits, order)]
                self.assertEqual(orders.let_orders(deeds, waits), let)
                self.assertIsInstance(orders.let_orders(deeds, waits), list)
                self.assertEqual(orders.how_many_orders(deeds, waits), len(let))
                for order in permutations(range(many)):
                    self.assertIs(orders.is_order(deeds, waits, order), order in let)
                closed = set(waits)
                while True:
                    more = {(one, far) for one, other in closed for near, far in closed if other == near} | closed
                    if more == closed:
                        break
                    closed = more
                self.assertEqual(orders.closed_waits(deeds, waits), tuple(sorted(closed)))

    def test_more_deeds(self):
        chosen = Random("more")
        for many in (5, 6, 7, 8):
            history = (("vest", "ann", ((),)),) * many
            for waits in some_waits(chosen, history, 4):
                let = [order for order in permutations(range(many)) if lets(waits, order)]
                self.assertEqual(orders.how_many_orders(history, waits), len(let))
                if many == 5:
                    self.assertEqual(orders.let_orders(history, waits), let)
                far = orders.closed_waits(history, waits)
                wanted = tuple(pair for pair in pairs_of(history)
                               if all(order.index(pair[0]) < order.index(pair[1]) for order in let))
                self.assertEqual(far, wanted)
        self.assertEqual(orders.how_many_orders((("vest", "ann", ()),) * 8, ()), 40320)

    def test_in_order(self):
        history = (("vest", "ann", ()), ("vest", "bob", ()), ("vest", "cid", ()))
        for order in permutations(range(3)):
            self.assertEqual(orders.in_order(history, order), tuple(history[place] for place in order))
        self.assertEqual(orders.in_order((), ()), ())
        for order in ((), (0, 1), (0, 1, 1), (0, 1, 2, 2), (0, 1, 3), (-1, 0, 1), (1, 2, 3), (0, 1, 2, 3),
                      (10 ** 30, 0, 1)):
            with self.assertRaises(Unfit):
                orders.in_order(history, order)


class Holding(unittest.TestCase):
    def test_holding(self):
        chosen = Random("holding")
        seen = {}
        for chart, history in cases("holding", 150):
            told = Outcomes(chart, history)
            for waits in some_waits(chosen, history):
                land = told.land_apart(waits)
                self.assertEqual(orders.land_apart(chart, history, waits), land, (chart, history, waits))
                hold, end = land == (), not told.end_apart(waits)
                self.assertIs(orders.waits_hold(chart, history, waits), hold)
                self.assertIs(orders.end_holds(chart, history, waits), end)
                self.look_at(chart, history, waits, hold, end)
                seen[hold, end] = seen.get((hold, end), 0) + 1
        self.assertEqual(set(seen), {(True, True), (False, True), (False, False)})

    def test_the_end_alone_holds(self):
        """Behind a last DEED for which all others are waited all may be the same, whatever was so ahead of it."""
        seen = {}
        for at, (chart, history) in enumerate(cases("end", 120)):
            deeds = history[:3] + ((("vest", "ann", ((),)),) if at % 2 else (("lift", "debt", ((),)),))
            told, waits = Outcomes(chart, deeds), tuple((place, len(deeds) - 1) for place in range(len(deeds) - 1))
            hold, end = told.land_apart(waits) == (), not told.end_apart(waits)
            self.look_at(chart, deeds, waits, hold, end)
            self.assertIs(orders.end_holds(chart, deeds, waits), end)
            seen[hold, end] = seen.get((hold, end), 0) + 1
        self.assertEqual(set(seen), {(True, True), (False, True), (False, False)})
        self.assertGreater(min(seen.values()), 3, seen)

    def look_at(self, chart, history, waits, hold, end):
        for make, tells, fits, ended in ((orders.waits_paper, orders.is_waits_paper, hold, False),
                                         (orders.end_paper, orders.is_end_paper, end, True)):
            paper = make(chart, history, waits)
            self.assertEqual(paper is None, fits)
            self.assertIs(tells(chart, history, waits, paper), not fits)
            if paper is None:
                continue
            world, one, other = paper
            self.assertIn(len(world), (1, 2))
            self.assertLessEqual({point[0] for point in world}, set(plain.let(chart)))
            self.assertTrue(lets(waits, one) and lets(waits, other) and sorted(one) == sorted(other))
            self.assertTrue(not ended or len(one) == len(history))
            self.assertTrue(unlike(history, world, one, other))

    def test_five_deeds(self):
        chosen = Random("five")
        for chart, history in title_cases("five", 25, 5) + way_cases("five", 8, 5, 1):
            told = Outcomes(chart, history)
            for waits in some_waits(chosen, history, 1):
                self.assertEqual(orders.land_apart(chart, history, waits), told.land_apart(waits))
                self.assertIs(orders.end_holds(chart, history, waits), not told.end_apart(waits))

    def test_eight_deeds(self):
        """Only from step to step: any two DEEDS that can both come next, behind each run."""
        chosen = Random("eight")
        seen = set()
        for _ in range(12):
            history = histories.some_history(chosen, ("a",), 8, TITLES, ("ann", "bob"), ("debt", "loan"))
            chart = (("a",), ())
            for waits in some_waits(chosen, history, 2):
                wanted = self.holds_by_steps(chart, history, waits)
                self.assertIs(orders.waits_hold(chart, history, waits), wanted)
                paper = orders.waits_paper(chart, history, waits)
                self.assertTrue(paper is None or lets(waits, paper[1]) and lets(waits, paper[2])
                                and unlike(history, *paper))
                seen.add(wanted)
        self.assertEqual(seen, {True, False})

    def holds_by_steps(self, chart, history, waits):
        firsts = plain_deeds.firsts(history)
        for spot in plain.let(chart):
            for first in firsts:
                world = ((spot, 1, first),)
                level = {(): plain_deeds.play((), world)[0]}
                for _ in history:
                    later = {}
                    for done, state in level.items():
                        for place in range(len(history)):
                            if place in done or not all(one in done for one, other in waits if other == place):
                                continue
                            grown = tuple(sorted(done + (place,)))
                            new = plain_deeds.after(state, history[place], world, place)
                            if later.setdefault(grown, new).same() != new.same():
                                return False
                    level = later
        return True

    def test_way_between_two_points_of_one_spot(self):
        chart, history = ((), ()), (("way", ((),), ((),)), ("end", ((),), ((),)))
        self.assertIs(orders.waits_hold(chart, history, ()), False)
        self.assertEqual(orders.land_apart(chart, history, ()), ((),))
        self.assertEqual(len(orders.waits_paper(chart, history, ())[0]), 2)
        self.assertIs(orders.waits_hold(chart, history, ((0, 1),)), True)

    def test_people_are_no_charges(self):
        chart, in_a, out, all_land = (("a",), ()), ((("a", True),),), ((("a", False),),), ((),)
        for history in ((("way", in_a, out), ("yield", "a", "b", in_a), ("charge", "a", all_land),
                         ("lift", "b", all_land)),
                        (("give", "a", "b", in_a), ("charge", "a", all_land), ("yield", "b", "a", all_land))):
            self.assertIs(orders.waits_hold(chart, history, ()), True)
            self.assertEqual(orders.loosest_waits(chart, history), [()])
        history = (("charge", "a", all_land), ("charge", "b", all_land), ("give", "a", "b", all_land))
        self.assertEqual(orders.loosest_waits(chart, history), [((0, 1),)])

    def test_way_hangs_on_owners(self):
        """The owners in the end are the same, but the way ends if they are the same in between."""
        chart = (("a",), ())
        in_a, out = ((("a", True),),), ((("a", False),),)
        for history in ((("vest", "ann", in_a), ("way", in_a, out), ("vest", "ann", out), ("vest", "bob", out)),
                        (("give", "ann", "bob", in_a), ("give", "bob", "cid", out), ("way", in_a, out)),
                        (("give", "ann", "bob", in_a), ("give", "bob", "cid", out), ("way", in_a, out),
                         ("end", in_a, out))):
            told = Outcomes(chart, history)
            for waits in plain.subsets(pairs_of(history)):
                self.assertEqual(orders.land_apart(chart, history, waits), told.land_apart(waits))
                self.assertIs(orders.end_holds(chart, history, waits), not told.end_apart(waits))
        self.assertIs(orders.waits_hold(chart, history[:3], ()), False)
        self.assertIs(orders.waits_hold(chart, history[:3], ((0, 2), (1, 2))), True)


class Papers(unittest.TestCase):
    def test_things(self):
        chosen = Random("things")
        seen = {}
        for chart, history in cases("things", 400):
            waits = chosen.choice(some_waits(chosen, history))
            runs = runs_of(history, waits)
            for _ in range(6):
                world = histories.some_world(chosen, chart, ("ann", "bob", "xan", "yul"), 4)
                places = chosen.choice(sorted(runs, key=lambda run: (-len(run), run))[:4])
                one, other = (tuple(chosen.sample(places, len(places))) if chosen.random() < 0.3
                              else chosen.choice(runs[places]) for _ in range(2))
                fits = one in runs[places] and other in runs[places] and unlike(history, world, one, other)
                self.assertIs(orders.is_waits_paper(chart, history, waits, (world, one, other)), fits)
                full = len(places) == len(history)
                self.assertIs(orders.is_end_paper(chart, history, waits, (world, one, other)), fits and full)
                seen[fits, full] = seen.get((fits, full), 0) + 1
        self.assertEqual(len(seen), 4)
        self.assertGreater(min(seen.values()), 20, seen)

    def test_runs_that_are_none(self):
        chart, all_land = ((), ()), ((),)
        history = (("vest", "ann", all_land), ("vest", "bob", all_land), ("vest", "cid", all_land))
        world = (((), 1, "xan"),)
        for waits, one, other, wanted in (
                ((), (0, 1), (1, 0), True), ((), (0, 1, 2), (1, 2, 0), True), ((), (0, 1), (0, 2), False),
                ((), (0,), (1,), False), ((), (0, 1), (0, 1), False), ((), (), (), False), ((), (0, 0), (0, 0), False),
                (((0, 1),), (0, 1), (1, 0), False), (((0, 1),), (0, 2), (2, 0), True), (((0, 1),), (1, 2), (2, 1),
                                                                                        False),
                (((0, 1),), (0, 1, 2), (0, 2, 1), True), ((), (0, 3), (3, 0), False), ((), (-1, 0), (0, -1), False),
                ((), [0, 1], (1, 0), False), ((), (False, True), (True, False), False), ((), (0, True), (1, 0), False),
                ((), (0, 1, 2, 0), (0, 1, 2, 1), False), ((), None, (), False), ((), "", "", False)):
            self.assertIs(orders.is_waits_paper(chart, history, waits, (world, one, other)), wanted, (one, other))
            full = wanted and len(one) == 3
            self.assertIs(orders.is_end_paper(chart, history, waits, (world, one, other)), full, (one, other))

    def test_many_points(self):
        chart, all_land = (("a",), ()), ((),)
        history = (("give", "ann", "bob", all_land), ("give", "bob", "cid", all_land), ("way", all_land, all_land))
        crowd = tuple((("a",), 1, "p" + one + other) for one, other in product("abcdefghijklmnopqrst", repeat=2))
        for world, one, other, wanted in ((crowd, (0, 1), (1, 0), False),
                                          (crowd + (((), 1, "ann"),), (0, 1), (1, 0), True),
                                          (crowd * 5, (0, 2), (2, 0), False), ((), (0, 1), (1, 0), False),
                                          (crowd[:1] + (((), 1, "ann"), ((), 1, "bob")), (0, 2), (2, 0), False)):
            self.assertIs(orders.is_waits_paper(chart, history, (), (world, one, other)), wanted)


class Loosest(unittest.TestCase):
    def test_all_waits(self):
        seen = set()
        for chart, history in cases("loosest", 120) + self.with_several():
            told = Outcomes(chart, history)
            fit = [waits for waits in plain.subsets(pairs_of(history))
                   if all((one, far) in waits for one, other in waits for near, far in waits if other == near)
                   and told.land_apart(waits) == ()]
            wanted = sorted(waits for waits in fit if not any(set(lesser) < set(waits) for lesser in fit))
            self.assertEqual(orders.loosest_waits(chart, history), wanted)
            self.assertIsInstance(orders.loosest_waits(chart, history), list)
            needed = tuple(pair for pair in pairs_of(history) if all(pair in waits for waits in wanted))
            self.assertEqual(orders.needed_waits(chart, history), needed)
            seen.add((len(wanted), len(needed)))
        self.assertGreater(len(seen), 7, seen)
        self.assertLessEqual({1, 2, 3}, {many for many, _ in seen})

    def with_several(self):
        chart, all_land = ((), ()), ((),)
        return [(chart, tuple(deed + (all_land,) for deed in deeds)) for deeds in (
            (("give", "bob", "cid"), ("give", "bob", "cid"), ("give", "cid", "ann")),
            (("give", "bob", "ann"), ("vest", "ann"), ("give", "cid", "bob")),
            (("charge", "debt"), ("charge", "debt"), ("charge", "rent"), ("lift", "rent")),
            (("vest", "bob"), ("vest", "cid"), ("give", "bob", "ann"), ("swap", "bob", "ann")))]

    def test_none_and_one(self):
        for history in ((), (("vest", "ann", ((),)),)):
            chart = ((), ())
            self.assertEqual(orders.loosest_waits(chart, history), [()])
            self.assertEqual(orders.needed_waits(chart, history), ())
            self.assertIs(orders.waits_hold(chart, history, ()), True)
            self.assertIs(orders.end_holds(chart, history, ()), True)
            self.assertIsNone(orders.waits_paper(chart, history, ()))
            self.assertEqual(orders.let_orders(history, ()), [tuple(range(len(history)))])
            self.assertEqual(orders.how_many_orders(history, ()), 1)
            self.assertEqual(orders.land_apart(chart, history, ()), ())


if __name__ == "__main__":
    unittest.main()
