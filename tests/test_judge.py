"""The judge beside a plain look: all WORLDS of as few POINTS as the guarantee names, played POINT by POINT."""

import unittest
from functools import lru_cache
from itertools import combinations_with_replacement
from random import Random

from landpoints import areas, charges, judge, plans, rents, titles, ways, wholes
from landpoints.errors import CanNot, NoPoint, Unfit
from tests import grounds, histories, plain, plain_deeds

KINDS = ("none", "within", "parcels", "has", "owners", "let", "go", "no way", "ahead", "rent")
TITLES = ("give", "give", "vest", "swap")
PEOPLE, CHARGES = ("ann", "bob"), ("debt", "loan")


def wholes_of(history):
    return [place for place, deed in enumerate(history) if deed[0] == "whole"]


def inside(world, cut):
    return [at for at, point in enumerate(world) if plain.is_in(point[0], cut)]


def is_far(state, one, other):
    """Whether one may not go from the one POINT over the other."""
    return one != other and state.owners[one] != state.owners[other] and (one, other) not in state.ways


def is_ahead(row, one, other):
    return one in row and other in row and row.index(one) < row.index(other)


def owes(rent, world):
    return sum(size * number for spot, size, _ in world for cut, number in rent if plain.is_in(spot, cut))


def is_paper(promise, world):
    """Whether the PROMISE is not so in the WORLD, told by the table of [16]."""
    word, rest = promise[0], promise[1:]
    if word == "none":
        return bool(inside(world, rest[0]))
    if word == "within":
        return bool(set(inside(world, rest[0])) - set(inside(world, rest[1])))
    if word == "parcels":
        return any(len(plain.homes(rest[0], spot)) != 1 for spot, _, _ in world)
    if word == "has":
        owners = plain_deeds.end(rest[0], world).owners
        return any(owners[at] != rest[1] for at in inside(world, rest[2]))
    if word == "owners":
        return plain_deeds.end(rest[0], world).owners != plain_deeds.end(rest[1], world).owners
    if word == "let":
        return rest[1] not in plain_deeds.end(rest[0], world).let
    if word in ("go", "no way"):
        state = plain_deeds.end(rest[0], world)
        pairs = [(one, other) for one in inside(world, rest[1]) for other in inside(world, rest[2])]
        if word == "go":
            return any(is_far(state, one, other) for one, other in pairs)
        return any(pair in state.ways for pair in pairs)
    if word == "ahead":
        rows = plain_deeds.end(rest[0], world).rows
        return any({*rest[1:3]} <= {*rows[at]} and not is_ahead(rows[at], *rest[1:3]) for at in inside(world, rest[3]))
    return owes(rest[0], world) + rest[2] < owes(rest[1], world)


def points_wanted(promise):
    """As many POINTS as a PAPER wants at the most, by the guarantee."""
    word = promise[0]
    if word in ("go", "no way"):
        return 2
    if word == "has":
        return len(wholes_of(promise[1])) + 1
    if word == "owners":
        return len(wholes_of(promise[1])) + len(wholes_of(promise[2])) + 1
    return len(wholes_of(promise[1])) if word == "let" else 1


def first_owners(promise):
    """People of the DEEDS, who is named, and strangers: two where it is told of pairs of POINTS, else one."""
    if promise[0] in ("has", "owners", "let", "go", "no way"):
        listed = promise[1:3] if promise[0] == "owners" else promise[1:2]
        named = {promise[2]} if promise[0] == "has" else set()
        return sorted({*plain_deeds.people(*listed), *named, "xan"} | ({"yul"} if "o" in promise[0][:2] else set()))
    return ["xan"]


@lru_cache(maxsize=None)
def fewest(chart, promise):
    """How few POINTS a PAPER has; None if there is none."""
    sizes = range(1, 6) if promise[0] == "rent" else (1,)
    choices = [(spot, size, first) for spot in plain.let(chart) for size in sizes for first in first_owners(promise)]
    for many in range(points_wanted(promise) + 1):
        if any(is_paper(promise, world) for world in combinations_with_replacement(choices, many)):
            return many
    return None


def holds(chart, promise):
    return fewest(chart, promise) is None


def some_history(chosen, cuts, words, longest=4, most=4, people=PEOPLE):
    """At most so many of its DEEDS are "whole"."""
    found = []
    for _ in range(chosen.randint(0, longest)):
        word = chosen.choice(words)
        if word == "whole" and len(wholes_of(found)) >= most:
            word = "give"
        found.append(histories.some_deed(chosen, word, cuts, people, CHARGES))
    return tuple(found)


def some_promise(chosen, chart, word):
    """A PROMISE of this word; many are such that hold by chance, too."""
    cuts = grounds.some_cuts(chart[0], 6, 2) + [((),)] + [(condition,) for condition in chart[1]]
    cut, over, mixed = chosen.choice(cuts), chosen.choice(cuts), TITLES + ("whole", "whole", "charge")
    if word == "none":
        return word, cut
    if word == "within":
        return word, cut, chosen.choice((over, tuple(sorted({*cut, *over}))))
    if word == "parcels":
        return word, chosen.choice(grounds.some_parcels(chart, 6))
    if word == "has":
        if chosen.random() < 0.5:
            # What is ann's becomes bob's only if all land is hers: two POINTS may show that it does not.
            wider = tuple(sorted({*cut, *over}))
            sale = ("vest", "ann", cut), *some_history(chosen, cuts, mixed, 1, 1), ("whole", "ann", "bob", wider)
            return word, sale + some_history(chosen, cuts, TITLES, 1), "bob", cut
        history = some_history(chosen, cuts, mixed, 4, 2)
        return word, history + ((("vest", "ann", over),) if chosen.random() < 0.6 else ()), "ann", cut
    if word == "owners":
        history = some_history(chosen, cuts, mixed, 3, 1)
        others = (history, history[1:], history[::-1], history + (("give", "ann", "bob", cut),),
                  some_history(chosen, cuts, mixed, 2, 1),
                  tuple(("give",) + deed[1:] if deed[0] == "whole" else deed for deed in history))
        return word, history, chosen.choice(others)
    if word == "let":
        history = some_history(chosen, cuts, mixed, 2, 1)
        if chosen.random() < 0.5:
            history = history + (("vest", "ann", over),)
        return (word, history + (("whole", "ann", "bob", cut),) + some_history(chosen, cuts, mixed, 1, 1),
                len(history))
    if word in ("go", "no way"):
        return word, some_history(chosen, cuts, TITLES + ("way", "way", "way", "end")), cut, over
    if word == "ahead":
        book = ("charge", "charge", "charge", "yield", "lift", "whole")
        first = (("charge", chosen.choice(CHARGES), over),) if chosen.random() < 0.7 else ()
        history = first + some_history(chosen, cuts + [((),)] * 4, book, 5, 2)
        return word, history, *chosen.sample(CHARGES, 2), chosen.choice((cut, ((),), ((),)))
    row = [tuple((chosen.choice(cuts), chosen.choice((-1, 1, 2))) for _ in range(chosen.randint(0, 2)))
           for _ in range(2)]
    return word, row[0] + (row[1] if chosen.random() < 0.5 else ()), row[1], chosen.choice((-1, 0, 0, 2, 4))


def cases(name, many, spots=3):
    """Pairs (chart, promise): so many of each kind, on MAPS of none to two AREAS with few LET SPOTS."""
    chosen = Random(name)
    charts = [chart for chart in grounds.maps(2, 7) if len(plain.let(chart)) <= spots]
    charts = charts + [chart for chart in charts if len(plain.let(chart)) > 1] * 3
    found = []
    for word in KINDS:
        for _ in range(many):
            chart = chosen.choice(charts)
            found.append((chart, some_promise(chosen, chart, word)))
    return found


def some_world(chosen, chart, promise, most=4):
    people = sorted({*PEOPLE, *first_owners(promise), "yul"})
    return histories.some_world(chosen, chart, people, most)


class Holds(unittest.TestCase):
    def test_beside_all_worlds(self):
        found = {}
        for chart, promise in cases("holds", 80):
            wanted = fewest(chart, promise)
            self.assertIs(judge.holds(chart, promise), wanted is None, (chart, promise))
            self.assertEqual(judge.paper_size(chart, promise), wanted, (chart, promise))
            paper = judge.a_paper(chart, promise)
            self.assertEqual(paper is None, wanted is None)
            if paper is not None:
                self.assertEqual(len(paper), wanted)
                self.assertLessEqual({spot for spot, _, _ in paper}, set(plain.let(chart)))
                self.assertTrue(all(type(size) is int and size > 0 for _, size, _ in paper))
                self.assertTrue(is_paper(promise, paper))
            self.assertIs(judge.is_paper(chart, promise, paper), paper is not None)
            found.setdefault(promise[0], set()).add(wanted)
        self.assertEqual(found["rent"], {None, 0, 1})
        for word in ("none", "within", "parcels", "ahead"):
            self.assertEqual(found[word], {None, 1})
        for word in ("go", "no way"):
            self.assertEqual(found[word], {None, 2})
        for word in ("has", "owners", "let"):
            self.assertLessEqual({None, 1, 2} if word != "let" else {None, 1}, found[word], word)

    def test_is_paper(self):
        chosen = Random("is paper")
        found = {(word, truth): 0 for word in KINDS for truth in (True, False)}
        for chart, promise in cases("is paper", 120, 4):
            for _ in range(6):
                world = some_world(chosen, chart, promise)
                wanted = is_paper(promise, world)
                self.assertIs(judge.is_paper(chart, promise, world), wanted, (chart, promise, world))
                found[promise[0], wanted] += 1
        self.assertGreater(min(found.values()), 20, found)

    def test_more_conditions_let_what_holds_hold(self):
        for chart, promise in cases("more", 60):
            if judge.holds(chart, promise):
                for condition in plain.all_conditions(chart[0]):
                    self.assertIs(judge.holds(areas.with_bare(chart, condition), promise), True)

    def test_beside_the_other_functions(self):
        """Who asks there is told the same."""
        for chart, promise in cases("beside", 60, 4):
            word, rest = promise[0], promise[1:]
            told = {"none": lambda: areas.land_of(chart, rest[0]) == (),
                    "within": lambda: areas.lies_within(chart, *rest),
                    "parcels": lambda: plans.is_plan(chart, *rest),
                    "has": lambda: set(areas.land_of(chart, rest[2])) <= set(wholes.sure_behind(chart, *rest[:2])),
                    "owners": lambda: wholes.same_owners(chart, *rest),
                    "let": lambda: rest[1] in wholes.sure_wholes(chart, rest[0]),
                    "go": lambda: ways.all_may_go(chart, *rest), "no way": lambda: ways.none_has_way(chart, *rest),
                    "ahead": lambda: not set(charges.ahead_land(chart, rest[0], rest[2], rest[1]))
                    & set(areas.land_of(chart, rest[3])),
                    "rent": lambda: rents.never_less(chart, *rest)}
            self.assertIs(judge.holds(chart, promise), told[word]())
            if word == "has" and not wholes_of(rest[0]):
                self.assertIs(judge.holds(chart, promise), titles.surely_has(chart, *rest))
            if word == "owners" and not wholes_of(rest[0] + rest[1]):
                self.assertIs(judge.holds(chart, promise), titles.same_titles(chart, *rest))

    def test_many_points_are_wanted(self):
        """One point loses by each "whole" that is refused, and each of these wants one more that is against it."""
        chart = (("a", "b"), ())
        none, only_a, only_b = ((("a", False), ("b", False)),), ((("a", True), ("b", False)),), (
            (("a", False), ("b", True)),)
        vest, beside = ("vest", "ann", none), (("vest", "ann", only_b + only_a),)
        both = (vest, ("whole", "ann", "bob", none + only_a), ("whole", "ann", "bob", none + only_b))
        last = (vest, ("whole", "ann", "bob", none + only_a), ("whole", "bob", "cid", none))
        for promise, wanted in ((("has", both[:2], "bob", none), 2), (("has", both, "bob", none), 3),
                                (("let", last, 2), 2), (("let", last, 1), 1), (("let", both, 2), 1),
                                (("owners", both + beside, (("vest", "bob", none),) + beside), 3),
                                (("has", both, "bob", ()), None)):
            self.assertEqual(judge.paper_size(chart, promise), wanted)
            self.assertEqual(fewest(chart, promise), wanted)
            paper = judge.a_paper(chart, promise)
            self.assertEqual(paper is None, wanted is None)
            if wanted is not None:
                self.assertEqual(judge.wanted_points(chart, promise, paper), tuple(range(wanted)))

    def test_no_land(self):
        for chart in (((), ((),)), (("a",), ((),))):
            for promise in (("none", ((),)), ("within", ((),), ()), ("parcels", ()), ("has", (), "ann", ((),)),
                            ("owners", (), (("vest", "ann", ((),)),)), ("let", (("whole", "ann", "bob", ((),)),), 0),
                            ("go", (), ((),), ((),)), ("no way", (("way", ((),), ((),)),), ((),), ((),)),
                            ("ahead", (), "debt", "loan", ((),)), ("rent", ((((),), -1),), (), 0)):
                self.assertIs(judge.holds(chart, promise), True)
                self.assertIsNone(judge.a_paper(chart, promise))
                self.assertIsNone(judge.paper_size(chart, promise))
                self.assertIs(judge.is_paper(chart, promise, ()), False)
            self.assertEqual(judge.a_paper(chart, ("rent", (), (), -1)), ())
            self.assertEqual(judge.paper_size(chart, ("rent", (), (), -1)), 0)
            self.assertIs(judge.is_paper(chart, ("rent", (), (), -1), ()), True)

    def test_very_many_points(self):
        chart, cut, all_land = (("a",), ()), ((("a", True),),), ((),)
        crowd = tuple((("a",) if at % 3 else (), at + 1, "cid") for at in range(4000))
        more = crowd + ((("a",), 10 ** 40, "dan"),)
        book = (("whole", "cid", "bob", cut), ("give", "dan", "bob", cut), ("way", cut, all_land))
        for promise, wanted, last in ((("has", book, "bob", cut), False, True), (("let", book, 0), False, True),
                                      (("owners", book, (("give", "cid", "bob", cut),)), False, True),
                                      (("none", cut), True, True), (("within", all_land, all_land), False, False),
                                      (("go", book[1:], cut, cut), False, False),
                                      (("no way", book[1:], all_land, all_land), False, True),
                                      (("ahead", (("charge", "rent", cut),), "rent", "debt", all_land), False, False),
                                      (("rent", ((cut, 1),), ((cut, 1),), 0), False, False),
                                      (("parcels", (("all", all_land),)), False, False)):
            self.assertIs(judge.is_paper(chart, promise, crowd), wanted, promise)
            self.assertIs(judge.is_paper(chart, promise, more), last, promise)


class Points(unittest.TestCase):
    def test_wanted_points(self):
        chosen = Random("wanted")
        found = {}
        for chart, promise in cases("wanted", 120, 4):
            for _ in range(3):
                world = some_world(chosen, chart, promise, 5)
                fit = [part for part in plain.subsets(range(len(world)))
                       if is_paper(promise, tuple(world[place] for place in part))]
                if not is_paper(promise, world):
                    with self.assertRaises(Unfit) as caught:
                        judge.wanted_points(chart, promise, world)
                    self.assertEqual((type(caught.exception), vars(caught.exception)), (Unfit, {}))
                    continue
                least = min(fit, key=lambda part: (len(part), part))
                self.assertEqual(judge.wanted_points(chart, promise, world), least)
                found.setdefault(promise[0], set()).add(len(least))
        for word in KINDS:
            self.assertIn(2 if word in ("go", "no way") else 1, found[word])
        self.assertIn(0, found["rent"])
        self.assertIn(2, found["owners"])

    def test_is_cut_paper(self):
        chosen = Random("cut")
        found = {True: 0, False: 0}
        for chart, promise in cases("cut", 60, 4):
            world = some_world(chosen, chart, promise, 5)
            for place in range(len(world)):
                wanted = is_paper(promise, world[:place] + world[place + 1:])
                self.assertIs(judge.is_cut_paper(chart, promise, world, place), wanted)
                found[wanted] += 1
            for place in (len(world), len(world) + 3, -1, -len(world), 10 ** 30, -10 ** 30):
                if not 0 <= place < len(world):
                    with self.assertRaises(NoPoint) as caught:
                        judge.is_cut_paper(chart, promise, world, place)
                    self.assertEqual((type(caught.exception), vars(caught.exception)), (NoPoint, {"place": place}))
        self.assertGreater(min(found.values()), 100)


class Under(unittest.TestCase):
    def can_not(self, *functions):
        for function, chart, promise in functions:
            with self.assertRaises(CanNot) as caught:
                function(chart, promise)
            self.assertEqual((type(caught.exception), vars(caught.exception)), (CanNot, {}))

    def test_surveys(self):
        found = set()
        for chart, promise in cases("surveys", 90):
            names, bare = chart
            if not holds(chart, promise):
                self.can_not((judge.surveys_under, chart, promise), (judge.fewest_surveys, chart, promise),
                             (judge.deeds_under, chart, promise))
                continue
            if len(plain.let((names, ()))) > 3 and promise[0] in ("has", "owners", "let"):
                continue
            under = tuple(condition for condition in bare
                          if not holds((names, tuple(other for other in bare if other != condition)), promise))
            self.assertEqual(judge.surveys_under(chart, promise), under)
            fit = [part for part in plain.subsets(bare) if holds((names, part), promise)]
            least = min(fit, key=lambda part: (len(part), part))
            self.assertEqual(judge.fewest_surveys(chart, promise), least)
            found.add((len(under), len(least)))
        self.assertLessEqual({(0, 0), (0, 1), (1, 1), (2, 2)}, found)

    def test_surveys_of_all_kinds(self):
        """b lies within a, and a and c are apart: each kind holds by it, or by one of both."""
        within, apart, idle = (("a", False), ("b", True)), (("a", True), ("c", True)), (("c", True), ("d", True))
        chart, in_a, in_b, in_c = (("a", "b", "c", "d"), tuple(sorted((within, apart, idle)))), (
            (("a", True),),), ((("b", True),),), ((("c", True),),)
        vest = (("vest", "ann", in_a),)
        for promise, wanted in (
                (("none", ((("b", True), ("c", True)),)), (within, apart)), (("within", in_b, in_a), (within,)),
                (("within", in_c, ((("a", False),),)), (apart,)), (("has", vest, "ann", in_b), (within,)),
                (("owners", vest + (("give", "bob", "cid", in_b),), vest), (within,)),
                (("let", vest + (("whole", "ann", "bob", in_b),), 1), (within,)),
                (("let", vest + (("vest", "cid", in_c), ("whole", "ann", "bob", in_b)), 2), (within, apart)),
                (("go", vest, in_b, in_a), (within,)), (("no way", (("way", in_a, in_a),), in_c, in_b), (apart,)),
                (("ahead", (("charge", "rent", (within,)), ("charge", "debt", ((),)), ("charge", "rent", in_b)),
                  "debt", "rent", ((),)), (within,)),
                (("rent", ((in_a, 1),), ((in_b, 1),), 0), (within,)),
                (("parcels", (("a", in_a), ("b", ((("a", False), ("b", False)),)))), (within,)),
                (("none", ()), ())):
            self.assertEqual(judge.surveys_under(chart, promise), tuple(sorted(wanted)), promise)
            self.assertEqual(judge.fewest_surveys(chart, promise), tuple(sorted(wanted)), promise)

    def test_surveys_that_tell_one_thing_twice(self):
        """Without each one alone it holds by the other one."""
        both, one = (("a", True), ("b", True)), (("a", True),)
        chart = (("a", "b"), (one, both))
        promise = ("none", (both,))
        self.assertEqual(judge.surveys_under(chart, promise), ())
        self.assertEqual(judge.fewest_surveys(chart, promise), (one,))
        self.assertEqual(judge.fewest_surveys((("a", "b"), (both,)), promise), (both,))

    def test_deeds(self):
        found = {}
        for chart, promise in cases("deeds", 160):
            if not holds(chart, promise):
                continue
            history = promise[1] if promise[0] in ("has", "owners", "let", "go", "no way", "ahead") else ()
            wanted = []
            for place in range(len(history)):
                left = history[:place] + history[place + 1:]
                if promise[0] == "let":
                    if place == promise[2]:
                        continue
                    # The "whole" of which it is said stands one place ahead then.
                    rest = (promise[2] - (place < promise[2]),)
                else:
                    rest = promise[2:]
                if not holds(chart, (promise[0], left, *rest)):
                    wanted.append(place)
            self.assertEqual(judge.deeds_under(chart, promise), tuple(wanted), (chart, promise))
            found.setdefault(promise[0], set()).add(min(len(wanted), 1))
        for word in KINDS:
            wanted = {0} if word in ("none", "within", "parcels", "rent") else {0, 1}
            self.assertEqual(found[word], wanted, word)

    def test_what_falls(self):
        chosen = Random("falls")
        found = set()
        rows = {}
        for chart, promise in cases("falls", 40):
            if len(chart[0]) < 2 or promise[0] not in ("has", "owners", "let"):
                rows.setdefault(chart, []).append(promise)
        for chart, promises in rows.items():
            names, bare = chart
            promises = tuple(chosen.sample(promises, len(promises)))
            for condition in bare:
                wider = (names, tuple(other for other in bare if other != condition))
                wanted = tuple(at for at, promise in enumerate(promises)
                               if holds(chart, promise) and not holds(wider, promise))
                self.assertEqual(judge.what_falls(chart, condition, promises), wanted)
                self.assertEqual(judge.what_falls(chart, condition, ()), ())
                found.add(len(wanted))
            for condition in plain.all_conditions(names):
                if condition not in bare:
                    with self.assertRaises(Unfit) as caught:
                        judge.what_falls(chart, condition, promises)
                    self.assertEqual(vars(caught.exception), {})
        self.assertLessEqual({0, 1, 2}, found)


class NoPromises(unittest.TestCase):
    chart = (("a",), ((("a", True),),))
    wrong = (None, True, 7, "none", "", (), ("none",), ("none", (), ()), ("none", ((("b", True),),)),
             ("none", ((("a", 1),),)), ("within", ()), ("let", (("give", "ann", "bob", ()),), 0),
             ("let", (("whole", "ann", "bob", ()),), 1), ("let", (("whole", "ann", "bob", ()),), -1),
             ("let", (("whole", "ann", "bob", ()),), False), ("ahead", (), "x", "x", ()), ("go", (("whole", "ann", "bob", ()),), (), ()),
             ("no way", (("whole", "ann", "bob", ()),), (), ()), ("has", (), "Ann", ()), ("rent", (), (), True),
             ("rent", (), (), None), ("parcels", (("b", ()), ("a", ()))), ["none"], [["none", []]],
             ("owners", (), ("vest",)), ("noway", (), (), ()))

    def test_unfit_ahead_of_all_else(self):
        condition = (("a", False),)
        for promise in self.wrong:
            for call in (lambda: judge.is_paper(self.chart, promise, None),
                         lambda: judge.is_paper(self.chart, promise, (((), 1, "ann"),)),
                         lambda: judge.holds(self.chart, promise), lambda: judge.a_paper(self.chart, promise),
                         lambda: judge.paper_size(self.chart, promise),
                         lambda: judge.wanted_points(self.chart, promise, ()),
                         lambda: judge.is_cut_paper(self.chart, promise, (), 5),
                         lambda: judge.is_cut_paper(self.chart, promise, (), -1),
                         lambda: judge.what_falls(self.chart, self.chart[1][0], (("none", ()), promise)),
                         lambda: judge.what_falls(self.chart, condition, (promise,)),
                         lambda: judge.surveys_under(self.chart, promise),
                         lambda: judge.fewest_surveys(self.chart, promise),
                         lambda: judge.deeds_under(self.chart, promise)):
                with self.subTest(promise=promise):
                    with self.assertRaises(Unfit) as caught:
                        call()
                    self.assertEqual((type(caught.exception), vars(caught.exception)), (Unfit, {}))

    def test_lists_stand_for_tuples(self):
        told = ["let", [["vest", "ann", [[]]], ["whole", "ann", "bob", [[["a", False]]]]], 1]
        self.assertIs(judge.holds([["a"], [[["a", True]]]], told), True)
        self.assertEqual(judge.deeds_under([["a"], []], told), (0,))


if __name__ == "__main__":
    unittest.main()
