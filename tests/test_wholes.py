"""Whole deeds beside a plain look: HISTORIES played on all WORLDS of as few POINTS as the guarantees name."""

import unittest
from itertools import combinations_with_replacement
from random import Random

from landpoints import wholes
from tests import histories, plain, plain_deeds

WORDS = ("whole", "whole", "give", "vest", "swap", "charge")
PEOPLE = ("a", "ann", "bob", "cid")


def places_of(history):
    return tuple(place for place, deed in enumerate(history) if deed[0] == "whole")


def cases(name, many, most, points=3, longest=5):
    """HISTORIES of none to so many "whole"s, on MAPS of so few LET SPOTS that all WORLDS can be tried."""
    found = []
    for chart, history in histories.cases(name, many, 2, longest, WORDS):
        if len(places_of(history)) <= most and len(plain.let(chart)) <= points:
            found.append((chart, history))
    return found


def all_worlds(chart, points, *listed, named=()):
    """WORLDS of at most so many POINTS, each in one order, with people of the DEEDS and a stranger as first owners."""
    firsts = sorted({*plain_deeds.people(*listed), *named, "xan"})
    choices = [(spot, 1, first) for spot in plain.let(chart) for first in firsts]
    for many in range(points + 1):
        yield from combinations_with_replacement(choices, many)


class Played:
    """What is told of a HISTORY by playing it on all WORLDS."""

    def __init__(self, chart, history, points, named=()):
        self.lets, self.ends, self.against = {}, {}, {}
        for world in all_worlds(chart, points, history, named=named):
            states = plain_deeds.play(history, world)
            let = states[-1].let
            self.lets.setdefault(let, len(world))
            for point, owner in zip(world, states[-1].owners):
                self.ends.setdefault(point[0], set()).add(owner)
            for place in places_of(history):
                for point, owner in zip(world, states[place].owners):
                    if plain.is_in(point[0], history[place][-1]) and owner != history[place][1]:
                        self.against.setdefault(place, set()).add(point[0])


class Plays(unittest.TestCase):
    def test_worlds(self):
        chosen = Random("plays")
        seen = set()
        for chart, history in histories.cases("plays", 300, 3, 6, WORDS):
            self.assertEqual(wholes.wholes_of(history), places_of(history))
            for _ in range(4):
                world = histories.some_world(chosen, chart, PEOPLE + ("xan",), 4)
                state = plain_deeds.end(history, world)
                self.assertEqual(wholes.let_wholes(world, history), state.let)
                self.assertEqual(wholes.owners_in(world, history), state.owners)
                seen.add((len(places_of(history)), len(state.let)))
        self.assertLessEqual({(0, 0), (1, 0), (1, 1), (2, 1), (3, 1), (3, 2)}, seen)

    def test_the_world_without_points(self):
        history = (("whole", "ann", "bob", ((),)), ("vest", "ann", ()), ("whole", "bob", "cid", ()))
        self.assertEqual(wholes.let_wholes((), history), (0, 2))
        self.assertEqual(wholes.owners_in((), history), ())

    def test_played(self):
        for chart, history in histories.cases("played", 200, 2, 6, WORDS):
            for guess in plain.subsets(places_of(history)):
                wanted = tuple(("give",) + deed[1:] if deed[0] == "whole" else deed
                               for place, deed in enumerate(history) if deed[0] != "whole" or place in guess)
                self.assertEqual(wholes.played(history, guess), wanted)

    def test_a_guess_that_comes_tells_all(self):
        """The guarantee: owners, ways and charges are those when the GUESS is played."""
        chosen = Random("guarantee")
        for chart, history in histories.cases("guarantee", 200, 2, 6, WORDS + ("way", "yield")):
            for _ in range(4):
                world = histories.some_world(chosen, chart, PEOPLE + ("xan",), 4)
                plain_history = wholes.played(history, wholes.let_wholes(world, history))
                self.assertEqual(plain_deeds.end(plain_history, world).same(), plain_deeds.end(history, world).same())

    def test_ground(self):
        for chart, history in histories.cases("ground", 200, 2, 6, WORDS):
            for guess in plain.subsets(places_of(history)):
                for first in PEOPLE + ("xan",):
                    wanted = []
                    for spot in plain.let(chart):
                        # Those that are not in the GUESS are written on no land, so that they do nothing.
                        kept = tuple(deed if deed[0] != "whole" or place in guess else deed[:-1] + ((),)
                                     for place, deed in enumerate(history))
                        if set(guess) <= set(plain_deeds.end(kept, ((spot, 1, first),)).let):
                            wanted.append(spot)
                    self.assertEqual(wholes.ground(chart, history, guess, first), tuple(wanted))


class Guesses(unittest.TestCase):
    def test_all_worlds(self):
        seen = {}
        for chart, history in cases("guesses", 260, 3):
            told = Played(chart, history, len(places_of(history)))
            self.assertEqual(wholes.guesses(chart, history), sorted(told.lets))
            self.assertIsInstance(wholes.guesses(chart, history), list)
            for guess in plain.subsets(places_of(history)):
                fewest = told.lets.get(guess)
                self.assertEqual(wholes.fewest_points(chart, history, guess), fewest)
                self.assertIs(wholes.can_come(chart, history, guess), fewest is not None)
                world = wholes.world_for(chart, history, guess)
                self.assertEqual(world is None, fewest is None)
                if world is not None:
                    self.assertEqual(len(world), fewest)
                    self.assertLessEqual({point[0] for point in world}, set(plain.let(chart)))
                    self.assertEqual(plain_deeds.end(history, world).let, guess)
                self.assertIs(wholes.is_world_for(chart, history, guess, world), world is not None)
                seen[fewest] = seen.get(fewest, 0) + 1
            sure = [place for place in places_of(history) if all(place in guess for guess in told.lets)]
            self.assertEqual(wholes.sure_wholes(chart, history), tuple(sure))
        self.assertLessEqual({None, 0, 1, 2}, set(seen), seen)

    def test_three_points_are_wanted(self):
        chart = (("a", "b"), ())
        exact = [((("a", one), ("b", other)),) for one, other in ((False, False), (False, True), (True, False))]
        history = tuple(("whole", "ann", "bob", cut) for cut in exact)
        self.assertEqual(wholes.fewest_points(chart, history, ()), 3)
        self.assertEqual(len(wholes.world_for(chart, history, ())), 3)
        self.assertEqual(wholes.let_wholes(wholes.world_for(chart, history, ()), history), ())
        self.assertEqual(len(wholes.guesses(chart, history)), 8)

    def test_is_world_for(self):
        chosen = Random("is")
        seen = {True: 0, False: 0}
        for chart, history in histories.cases("is", 300, 2, 5, WORDS):
            for _ in range(4):
                guess = chosen.choice(plain.subsets(places_of(history)))
                world = histories.some_world(chosen, chart, PEOPLE + ("xan",), 4)
                wanted = plain_deeds.end(history, world).let == guess
                self.assertIs(wholes.is_world_for(chart, history, guess, world), wanted)
                seen[wanted] += 1
        self.assertGreater(min(seen.values()), 100)

    def test_lands(self):
        some = 0
        for chart, history in cases("lands", 300, 2):
            told = Played(chart, history, len(places_of(history)) + 1, PEOPLE)
            for place in places_of(history):
                land = tuple(sorted(told.against.get(place, ())))
                self.assertEqual(wholes.against_land(chart, history, place), land)
                some += 0 < len(land) < len(plain.let(chart))
            for who in PEOPLE:
                self.assertEqual(wholes.sure_behind(chart, history, who),
                                 plain_deeds.spots_where(chart, lambda spot: told.ends[spot] == {who}))
                self.assertEqual(wholes.maybe_behind(chart, history, who),
                                 plain_deeds.spots_where(chart, lambda spot: who in told.ends[spot]))
        self.assertGreater(some, 20)


def unlike(history, second, world):
    return plain_deeds.end(history, world).owners != plain_deeds.end(second, world).owners


class Splits(unittest.TestCase):
    def pairs(self):
        chosen = Random("pairs")
        for chart, history in cases("pairs", 220, 3, 3, 4):
            others = [history[1:], tuple(("give",) + deed[1:] if deed[0] == "whole" else deed for deed in history),
                      history[:1] + history[::-1][:2], histories.some_history(chosen, chart[0], 3, WORDS)]
            for second in others:
                if len(places_of(history)) + len(places_of(second)) + len(plain.let(chart)) <= 5:
                    yield chart, history, second

    def test_all_worlds(self):
        seen = {}
        for chart, history, second in self.pairs():
            most = len(places_of(history)) + len(places_of(second)) + 1
            fewest = min((len(world) for world in all_worlds(chart, most, history, second)
                          if unlike(history, second, world)), default=None)
            self.assertEqual(wholes.fewest_split(chart, history, second), fewest)
            self.assertIs(wholes.same_owners(chart, history, second), fewest is None)
            world = wholes.split_world(chart, history, second)
            self.assertEqual(world is None, fewest is None)
            if world is not None:
                self.assertEqual(len(world), fewest)
                self.assertLessEqual({point[0] for point in world}, set(plain.let(chart)))
                self.assertTrue(unlike(history, second, world))
            self.assertIs(wholes.is_split_world(chart, history, second, world), world is not None)
            seen[fewest] = seen.get(fewest, 0) + 1
        self.assertLessEqual({None, 1, 2}, set(seen), seen)

    def test_is_split_world(self):
        chosen = Random("split")
        seen = {True: 0, False: 0}
        for chart, history in histories.cases("split", 500, 2, 5, WORDS):
            for second in (history[1:], history[:-1]):
                world = histories.some_world(chosen, chart, PEOPLE + ("xan",), 4)
                wanted = unlike(history, second, world)
                self.assertIs(wholes.is_split_world(chart, history, second, world), wanted)
                seen[wanted] += 1
        self.assertGreater(min(seen.values()), 100)

    def test_idle_checks(self):
        seen = set()
        for chart, history in cases("idle", 500, 2, 2, 5):
            idle = []
            for place in places_of(history):
                second = history[:place] + (("give",) + history[place][1:],) + history[place + 1:]
                worlds = all_worlds(chart, 2 * len(places_of(history)), history)
                same = not any(unlike(history, second, world) for world in worlds)
                if same:
                    idle.append(place)
                seen.add(same)
            self.assertEqual(wholes.idle_checks(chart, history), tuple(idle))
        self.assertEqual(seen, {True, False})

    def test_three_wholes(self):
        """One behind another, whose checks hang on one another."""
        chart, all_land, west = (("w",), ()), ((),), ((("w", True),),)
        history = (("whole", "ann", "bob", west), ("whole", "bob", "cid", west), ("whole", "cid", "ann", all_land))
        told = Played(chart, history, 4, ("ann", "bob", "cid"))
        self.assertEqual(wholes.guesses(chart, history), sorted(told.lets))
        for guess, fewest in told.lets.items():
            self.assertEqual(wholes.fewest_points(chart, history, guess), fewest)
        for place in range(3):
            self.assertEqual(wholes.against_land(chart, history, place), tuple(sorted(told.against.get(place, ()))))
        idle = []
        for place in range(3):
            second = history[:place] + (("give",) + history[place][1:],) + history[place + 1:]
            worlds = list(all_worlds(chart, 3, history))
            fewest = min((len(world) for world in worlds if unlike(history, second, world)), default=None)
            if fewest is None:
                self.assertIs(wholes.same_owners(chart, history, second), True)
                idle.append(place)
            else:
                self.assertEqual(wholes.fewest_split(chart, history, second), fewest)
        self.assertEqual(wholes.idle_checks(chart, history), tuple(idle))

    def test_four_wholes_and_one(self):
        chart = (("a", "b"), ())
        cuts = [((("a", one), ("b", other)),) for one in (False, True) for other in (False, True)]
        history = tuple(("whole", "ann", "bob", cut) for cut in cuts)
        self.assertIs(wholes.same_owners(chart, history, history[::-1]), True)
        self.assertIs(wholes.same_owners(chart, history, (("give", "ann", "bob", ((),)),)), False)
        self.assertEqual(wholes.fewest_split(chart, history, (("give", "ann", "bob", ((),)),)), 2)
        self.assertEqual(wholes.fewest_split(chart, history, (("whole", "ann", "bob", ((),)),)), 2)
        self.assertEqual(wholes.fewest_points(chart, history, ()), 4)


if __name__ == "__main__":
    unittest.main()
