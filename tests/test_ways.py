"""Ways beside a plain look: HISTORIES played DEED by DEED on all WORLDS of two POINTS, and on some of more."""

import unittest
from random import Random

from landpoints import ways
from tests import grounds, histories, plain, plain_deeds

WORDS = ("way", "way", "way", "end", "give", "vest", "swap", "charge")
CASES = histories.cases("ways", 150, 2, 5, WORDS, ("ann", "bob"), ("debt", "loan"))
FIRSTS = ("a", "ann", "bob", "xan", "yul")


def two_points(chart, *listed):
    """All WORLDS of two POINTS whose first owners are people of the DEEDS, or one or two strangers."""
    return list(plain_deeds.worlds(chart, 2, sorted({*plain_deeds.people(*listed), "xan", "yul"})))


def may_go(state, one, other):
    return one == other or state.owners[one] == state.owners[other] or (one, other) in state.ways


def is_no_go(history, world, cut, over):
    state, places = plain_deeds.end(history, world), range(len(world))
    return any(not may_go(state, one, other) for one in places for other in places
               if plain.is_in(world[one][0], cut) and plain.is_in(world[other][0], over))


def is_a_way(history, world, cut, over):
    return any(plain.is_in(world[one][0], cut) and plain.is_in(world[other][0], over)
               for one, other in plain_deeds.end(history, world).ways)


def ended(history, world, one, other):
    row = [(one, other) in state.ways for state in plain_deeds.play(history, world)]
    return tuple(place for place in range(len(history)) if row[place] and not row[place + 1])


class OfPoints(unittest.TestCase):
    def test_two_points(self):
        chosen = Random("two")
        for chart, history in CASES:
            for near in plain.subsets(chart[0]):
                for far in plain.subsets(chart[0]):
                    for first, last in ((chosen.choice(FIRSTS), chosen.choice(FIRSTS)) for _ in range(3)):
                        world = ((near, 1, first), (far, 1, last))
                        row = tuple((0, 1) in state.ways for state in plain_deeds.play(history, world))
                        self.assertEqual(ways.way_along(history, near, first, far, last), row)
                        self.assertIs(ways.way_behind(history, near, first, far, last), row[-1])

    def test_worlds(self):
        chosen = Random("worlds")
        many = 0
        for chart, history in CASES:
            for _ in range(4):
                world = histories.some_world(chosen, chart, FIRSTS, 5)
                state = plain_deeds.end(history, world)
                self.assertEqual(ways.ways_in(chart, history, world), tuple(sorted(state.ways)))
                for one in range(len(world)):
                    for other in range(len(world)):
                        self.assertIs(ways.goes_in(chart, history, world, one, other), may_go(state, one, other))
                        self.assertEqual(ways.ended_in(chart, history, world, one, other),
                                         ended(history, world, one, other))
                many += len(state.ways)
        self.assertGreater(many, 50)

    def test_a_point_and_itself(self):
        chart, history = (("a",), ()), (("way", ((),), ((),)),)
        world = ((("a",), 1, "ann"), (("a",), 1, "bob"), (("a",), 1, "ann"))
        self.assertEqual(ways.ways_in(chart, history, world), ((0, 1), (1, 0), (1, 2), (2, 1)))
        for place in range(3):
            self.assertIs(ways.goes_in(chart, (), world, place, place), True)
            self.assertEqual(ways.ended_in(chart, history, world, place, place), ())
        self.assertIs(ways.goes_in(chart, (), world, 0, 2), True)
        self.assertIs(ways.goes_in(chart, (), world, 0, 1), False)


class ForAllWorlds(unittest.TestCase):
    def cut_and_over(self, chosen, chart):
        return histories.some_cut(chosen, chart), histories.some_cut(chosen, chart)

    def look_at(self, paper, worlds, chart):
        """Looks if the paper is one of the WORLDS, whatever strangers and sizes it has; None if there is none."""
        self.assertEqual(paper is None, not worlds)
        if paper is not None:
            self.assertEqual(len(paper), 2)
            self.assertTrue(all(point[0] in plain.let(chart) for point in paper))

    def look(self, shows, all_fit, a_paper, is_paper):
        """Compares what is told of cut and over with the WORLDS of two POINTS that show that it is not so."""
        chosen = Random("for all")
        seen = set()
        for chart, history in CASES:
            worlds = two_points(chart, history)
            for cut, over in [self.cut_and_over(chosen, chart) for _ in range(3)] + [(grounds.ALL, grounds.ALL)]:
                found = [world for world in worlds if shows(history, world, cut, over)]
                self.assertIs(all_fit(chart, history, cut, over), not found)
                paper = a_paper(chart, history, cut, over)
                self.look_at(paper, found, chart)
                self.assertTrue(paper is None or shows(history, paper, cut, over))
                self.assertIs(is_paper(chart, history, cut, over, paper), bool(found))
                for world in worlds[::7]:
                    self.assertIs(is_paper(chart, history, cut, over, world), world in found)
                seen.add(bool(found))
        self.assertEqual(seen, {True, False})

    def test_who_may_go(self):
        self.look(is_no_go, ways.all_may_go, ways.no_go, ways.is_no_go)

    def test_who_has_a_way(self):
        self.look(is_a_way, ways.none_has_way, ways.a_way, ways.is_a_way)

    def test_things_of_many_points(self):
        chosen = Random("many")
        seen = {}
        for chart, history in CASES * 2:
            for _ in range(3):
                world = histories.some_world(chosen, chart, FIRSTS + ("zed",), 5)
                cut, over = self.cut_and_over(chosen, chart)
                other = history[:chosen.randint(0, len(history))] + history[-1:]
                unlike = plain_deeds.end(history, world).ways != plain_deeds.end(other, world).ways
                for name, answer, wanted in (
                        ("no_go", ways.is_no_go(chart, history, cut, over, world), is_no_go(history, world, cut, over)),
                        ("way", ways.is_a_way(chart, history, cut, over, world), is_a_way(history, world, cut, over)),
                        ("unlike", ways.is_unlike_ways(chart, history, other, world), unlike)):
                    self.assertIs(answer, wanted, name)
                    seen[name, wanted] = seen.get((name, wanted), 0) + 1
        self.assertEqual(len(seen), 6)
        self.assertGreater(min(seen.values()), 30, seen)

    def test_may_go(self):
        chosen = Random("may")
        seen = set()
        for chart, history in CASES:
            for person in ("a", "ann", "eve"):
                worlds = list(plain_deeds.worlds(chart, 2,
                                                 sorted({*plain_deeds.people(history), person, "xan", "yul"})))
                ends = [(world, plain_deeds.end(history, world)) for world in worlds]
                cut, over = self.cut_and_over(chosen, chart)
                wanted = all(may_go(state, 0, 1) for world, state in ends if state.owners[0] == person
                             and plain.is_in(world[0][0], cut) and plain.is_in(world[1][0], over))
                self.assertIs(ways.may_go(chart, history, person, cut, over), wanted)
                seen.add(wanted)
        self.assertEqual(seen, {True, False})

    def test_lands(self):
        for chart, history in CASES:
            worlds = [(world, plain_deeds.end(history, world)) for world in two_points(chart, history)]
            there = {(world[0][0], world[1][0]) for world, state in worlds if (0, 1) in state.ways}
            barred = {(world[0][0], world[1][0]) for world, state in worlds if not may_go(state, 0, 1)}
            let = plain.let(chart)
            self.assertEqual(ways.served(chart, history), tuple(sorted({near for near, _ in there})))
            self.assertEqual(ways.borne(chart, history), tuple(sorted({far for _, far in there})))
            for near in let:
                self.assertEqual(ways.can_cross(chart, history, near),
                                 tuple(far for far in let if (near, far) in there))
                self.assertEqual(ways.sure_cross(chart, history, near),
                                 tuple(far for far in let if (near, far) not in barred))

    def test_ending_and_idle(self):
        ends, idles = set(), set()
        for chart, history in CASES:
            worlds = two_points(chart, history)
            found = {place for world in worlds for place in ended(history, world, 0, 1)}
            self.assertEqual(ways.ending_deeds(chart, history), tuple(sorted(found)))
            idle = []
            for place, deed in enumerate(history):
                rest = plain_deeds.left(history, (place,))
                if deed[0] in ("way", "end") and all(plain_deeds.end(history, world).ways
                                                     == plain_deeds.end(rest, world).ways for world in worlds):
                    idle.append(place)
            self.assertEqual(ways.idle_ways(chart, history), tuple(idle))
            ends |= {history[place][0] for place in found}
            idles |= {history[place][0] for place in idle}
        self.assertLessEqual({"end", "give", "vest"}, ends)
        self.assertEqual(idles, {"way", "end"})

    def test_unlike_ways(self):
        chosen = Random("unlike")
        seen = set()
        for chart, one in CASES:
            for other in (one[1:], one[::-1], histories.some_history(chosen, chart[0], 4, WORDS, ("ann", "cid"))):
                worlds = two_points(chart, one, other)
                unlike = [world for world in worlds
                          if plain_deeds.end(one, world).ways != plain_deeds.end(other, world).ways]
                self.assertIs(ways.same_ways(chart, one, other), not unlike)
                paper = ways.unlike_ways(chart, one, other)
                self.look_at(paper, unlike, chart)
                self.assertTrue(paper is None
                                or plain_deeds.end(one, paper).ways != plain_deeds.end(other, paper).ways)
                self.assertIs(ways.is_unlike_ways(chart, one, other, paper), bool(unlike))
                for world in worlds[::9]:
                    self.assertIs(ways.is_unlike_ways(chart, one, other, world), world in unlike)
                seen.add(bool(unlike))
        self.assertEqual(seen, {True, False})

    def test_three_areas(self):
        for chart, history in histories.cases("three", 12, 3, 5, WORDS, ("ann", "bob")):
            worlds = two_points(chart, history)
            there = {(world[0][0], world[1][0]) for world in worlds if plain_deeds.end(history, world).ways & {(0, 1)}}
            self.assertEqual(ways.served(chart, history), tuple(sorted({near for near, _ in there})))
            self.assertEqual(ways.borne(chart, history), tuple(sorted({far for _, far in there})))


class ManyPoints(unittest.TestCase):
    def names(self, many):
        return ["p" + "".join(chr(97 + int(digit)) for digit in str(at)) for at in range(many)]

    def test_one_stranger_in_two_spots_among_many(self):
        """The one who owns in both has no way, all others do: for him the owners were the same when it was made."""
        chart = (("a", "b"), ())
        in_a, in_b = ((("a", True),),), ((("b", True),),)
        history = (("way", in_a, in_b), ("vest", "bob", in_b))
        others = tuple((("a",), 1, name) for name in self.names(500))
        for world, wanted in ((others + ((("b",), 1, "zed"),), False),
                              (others + ((("a",), 1, "zed"), (("b",), 1, "zed")), True),
                              (others + ((("b",), 1, others[-1][2]),), True)):
            self.assertIs(ways.is_no_go(chart, history, in_a, in_b, world), wanted)
            self.assertIs(ways.is_unlike_ways(chart, history, history[:1] + history, world), False)
        self.assertIs(ways.is_a_way(chart, history, in_a, in_b, others + ((("b",), 1, others[0][2]),)), True)
        self.assertIs(ways.is_a_way(chart, history, in_a, in_b, others[:1] + ((("b",), 1, others[0][2]),)), False)

    def test_a_person_of_the_second_history_among_many(self):
        chart, in_a, in_b = (("a", "b"), ()), ((("a", True),),), ((("b", True),),)
        one = (("way", in_a, in_b),)
        other = one + (("give", "cid", "dan", in_a),)
        crowd = tuple((("a",), 1, name) for name in self.names(50)) + ((("b",), 1, "dan"),)
        for world, wanted in ((crowd, False), (crowd + ((("a",), 1, "cid"),), True)):
            self.assertIs(ways.is_unlike_ways(chart, one, other, world), wanted)
            self.assertIs(ways.is_unlike_ways(chart, other, one, world), wanted)

    def test_very_many(self):
        chart = (("a",), ())
        world = tuple((("a",) if at % 2 else (), at + 1, name) for at, name in enumerate(self.names(4000)))
        history = (("way", grounds.ALL, grounds.ALL),)
        self.assertIs(ways.is_no_go(chart, history, grounds.ALL, grounds.ALL, world), False)
        self.assertIs(ways.is_no_go(chart, (), grounds.ALL, grounds.ALL, world), True)
        self.assertIs(ways.is_a_way(chart, history, grounds.ALL, grounds.ALL, world), True)
        self.assertIs(ways.is_unlike_ways(chart, history, (), world), True)
        self.assertIs(ways.is_a_way(chart, (), grounds.ALL, grounds.ALL, world), False)


if __name__ == "__main__":
    unittest.main()
