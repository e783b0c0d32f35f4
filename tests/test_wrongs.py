"""Wrongs, doubts and late DEEDS beside a plain look: HISTORIES with and without DEEDS, and all CHOICES."""

import unittest
from itertools import product
from random import Random

from landpoints import wrongs
from landpoints.errors import CanNot
from tests import histories, plain, plain_deeds

CASES = histories.cases("wrongs", 200) + histories.cases("titles that are wrong", 200, 2, 5, histories.TITLES)
NAMES = ("a", "ann", "bob", "cid", "zed")


def along(history, places, spot, first):
    """The owners ahead of all DEEDS and behind each, those at places being left out."""
    row = [first]
    for place, deed in enumerate(history):
        turns = deed[0] in ("give", "vest", "swap") and plain.is_in(spot, deed[-1]) and place not in places
        row.append(plain_deeds.owner_after(deed, row[-1]) if turns else row[-1])
    return row


def last(history, places, spot, first):
    return along(history, places, spot, first)[-1]


def choices(doubts):
    return plain.subsets(doubts)


def by_choice(history, doubts, choice, spot, first):
    return last(history, [doubt for doubt in doubts if doubt not in choice], spot, first)


def points(chart, history, named=()):
    return [(spot, first) for spot in plain.let(chart) for first in plain_deeds.firsts(history, named=named)]


class Wrong(unittest.TestCase):
    def test_along_is_the_plain_look(self):
        for chart, history in CASES[::5]:
            for spot, first in points(chart, history):
                self.assertEqual(tuple(along(history, (), spot, first)), plain_deeds.owners(history, spot, first))
                for places in choices(tuple(range(len(history))))[::3]:
                    rest = plain_deeds.left(history, places)
                    self.assertEqual(last(history, places, spot, first), plain_deeds.owner(rest, spot, first))

    def test_lands(self):
        chosen = Random("lands")
        for chart, history in CASES:
            asked = points(chart, history)
            for places in {(), tuple(range(len(history))), histories.some_places(chosen, history)}:
                self.assertEqual(wrongs.struck(history, places), plain_deeds.left(history, places))
                rows = [(spot, along(history, (), spot, first), along(history, places, spot, first))
                        for spot, first in asked]
                wrong = {spot for spot, row, other in rows if row[-1] != other[-1]}
                self.assertEqual(wrongs.wrong_land(chart, history, places), tuple(sorted(wrong)))
                healed, otherwise = [], []
                for place in range(len(history)):
                    wrong = {spot for spot, row, other in rows if row[place + 1] != other[place + 1]}
                    self.assertEqual(wrongs.wrong_behind(chart, history, places, place), tuple(sorted(wrong)))
                    if place in places:
                        continue
                    land = {spot for spot, row, other in rows
                            if row[place] != other[place] and row[place + 1] == other[place + 1]}
                    if land:
                        healed.append((place, tuple(sorted(land))))
                    if any((row[place] != row[place + 1]) != (other[place] != other[place + 1])
                           for _, row, other in rows):
                        otherwise.append(place)
                self.assertEqual(wrongs.healed(chart, history, places), healed)
                self.assertEqual(wrongs.do_otherwise(chart, history, places), tuple(otherwise))

    def test_who_is_not_wrong_ahead(self):
        """The guarantee: such an owner is not wrong behind the DEED, as it is not at places."""
        some = 0
        for chart, history in CASES:
            for places in choices(tuple(range(len(history))))[::2]:
                some += len(wrongs.healed(chart, history, places))
                for place in range(len(history)):
                    if place not in places:
                        ahead = wrongs.wrong_behind(chart, history, places, place - 1) if place else ()
                        self.assertLessEqual(set(wrongs.wrong_behind(chart, history, places, place)), set(ahead))
        self.assertGreater(some, 100)

    def test_a_struck_deed_heals_nothing(self):
        history, chart = (("give", "ann", "bob", ((),)), ("give", "bob", "ann", ((),))), ((), ())
        self.assertEqual(wrongs.healed(chart, history, (0, 1)), [])
        self.assertEqual(wrongs.wrong_behind(chart, history, (0, 1), 0), ((),))
        self.assertEqual(wrongs.wrong_behind(chart, history, (0, 1), 1), ((),))
        self.assertEqual(wrongs.wrong_land(chart, history[:1] + (("vest", "ann", ((),)),), (0,)), ())

    def test_papers(self):
        chosen = Random("papers")
        seen = {True: 0, False: 0}
        for chart, history in CASES:
            asked = points(chart, history, NAMES)
            for places in {(), histories.some_places(chosen, history), histories.some_places(chosen, history)}:
                wrong = {(spot, first) for spot, first in asked
                         if last(history, (), spot, first) != last(history, places, spot, first)}
                if wrong:
                    paper = wrongs.wrong_paper(chart, history, places)
                    self.assertTrue(any(last(history, (), spot, first) != last(history, places, spot, first)
                                        and spot in plain.let(chart) for spot, _, first in paper))
                    self.assertIs(wrongs.is_wrong_paper(chart, history, places, paper), True)
                    self.assertIs(wrongs.is_wrong_paper(chart, history, places, paper * 2), True)
                else:
                    with self.assertRaises(CanNot):
                        wrongs.wrong_paper(chart, history, places)
                for _ in range(3):
                    world = histories.some_world(chosen, chart, NAMES)
                    wanted = any((spot, first) in wrong for spot, _, first in world)
                    self.assertIs(wrongs.is_wrong_paper(chart, history, places, world), wanted)
                    seen[wanted] += 1
        self.assertGreater(min(seen.values()), 200)

    def test_fewest_struck(self):
        chosen = Random("fewest")
        seen = set()
        for chart, history in CASES:
            for spot in plain.subsets(chart[0]):
                for first, name in ((chosen.choice(NAMES), chosen.choice(NAMES)) for _ in range(3)):
                    fit = [(len(places), places) for places in choices(tuple(range(len(history))))
                           if last(history, places, spot, first) == name]
                    if fit:
                        self.assertEqual(wrongs.fewest_struck(history, spot, first, name), min(fit)[1])
                        seen.add(min(fit)[0])
                    else:
                        with self.assertRaises(CanNot):
                            wrongs.fewest_struck(history, spot, first, name)
        self.assertLessEqual({0, 1, 2}, seen)


class Doubts(unittest.TestCase):
    def each_case(self, name):
        chosen = Random(name)
        for chart, history in CASES:
            for doubts in {(), tuple(range(len(history))), histories.some_places(chosen, history)}:
                yield chosen, chart, history, doubts

    def test_can_own(self):
        for _, chart, history, doubts in self.each_case("own"):
            ends = {}
            for spot, first in points(chart, history, NAMES):
                ends[spot, first] = {by_choice(history, doubts, choice, spot, first) for choice in choices(doubts)}
                self.assertEqual(wrongs.can_own(history, doubts, spot, first), tuple(sorted(ends[spot, first])))
            self.assertEqual(wrongs.doubt_land(chart, history, doubts),
                             tuple(sorted({spot for spot, first in ends if len(ends[spot, first]) > 1})))
            for name in NAMES:
                unlike = {spot for spot, first in ends if ends[spot, first] != {name}}
                self.assertEqual(wrongs.settled_land(chart, history, doubts, name),
                                 tuple(spot for spot in plain.let(chart) if spot not in unlike))

    def test_mattering(self):
        some = 0
        for _, chart, history, doubts in self.each_case("matter"):
            found = set()
            asked = points(chart, history)
            for doubt, choice in product(doubts, choices(doubts)):
                if doubt not in choice:
                    other = tuple(sorted(choice + (doubt,)))
                    if any(by_choice(history, doubts, choice, *point) != by_choice(history, doubts, other, *point)
                           for point in asked):
                        found.add(doubt)
            self.assertEqual(wrongs.mattering(chart, history, doubts), tuple(sorted(found)))
            self.assertEqual(found == set(), wrongs.doubt_land(chart, history, doubts) == ())
            some += 0 < len(found) < len(doubts)
        self.assertGreater(some, 30)

    def test_the_least_set_is_that_of_those_that_matter(self):
        for _, chart, history, doubts in list(self.each_case("least"))[::4]:
            asked = points(chart, history)
            told = {choice: [by_choice(history, doubts, choice, *point) for point in asked]
                    for choice in choices(doubts)}
            fit = [kept for kept in choices(doubts)
                   if all(told[one] == told[other] for one in told for other in told
                          if set(one) & set(kept) == set(other) & set(kept))]
            wanted = wrongs.mattering(chart, history, doubts)
            self.assertIn(wanted, fit)
            self.assertTrue(all(set(wanted) <= set(kept) for kept in fit))

    def test_papers(self):
        seen = {True: 0, False: 0}
        for chosen, chart, history, doubts in self.each_case("doubt papers"):
            if wrongs.doubt_land(chart, history, doubts):
                world, one, other = wrongs.doubt_paper(chart, history, doubts)
                self.assertLessEqual({*one, *other}, set(doubts))
                self.assertLessEqual({point[0] for point in world}, set(plain.let(chart)))
                self.assertTrue(any(by_choice(history, doubts, one, spot, first)
                                    != by_choice(history, doubts, other, spot, first) for spot, _, first in world))
                self.assertIs(wrongs.is_doubt_paper(chart, history, doubts, (world, one, other)), True)
                self.assertIs(wrongs.is_doubt_paper(chart, history, doubts, (world * 2, other, one)), True)
            else:
                with self.assertRaises(CanNot):
                    wrongs.doubt_paper(chart, history, doubts)
            for _ in range(3):
                world = histories.some_world(chosen, chart, NAMES, 3)
                one, other = chosen.choice(choices(doubts)), chosen.choice(choices(doubts))
                wanted = any(by_choice(history, doubts, one, spot, first)
                             != by_choice(history, doubts, other, spot, first) for spot, _, first in world)
                self.assertIs(wrongs.is_doubt_paper(chart, history, doubts, (world, one, other)), wanted)
                seen[wanted] += 1
        self.assertGreater(min(seen.values()), 200)

    def test_no_choice(self):
        chart, history = ((), ()), (("give", "ann", "bob", ((),)), ("give", "ann", "cid", ((),)))
        world = (((), 1, "ann"),)
        for one, wanted in (((0,), True), ((), False), ((1,), False), ((0, 1), False), ((0, 0), False), ((2,), False),
                            ((-2,), False), ((False,), False), ([0], False), (None, False), ("", False)):
            self.assertIs(wrongs.is_doubt_paper(chart, history, (0,), (world, one, ())), wanted, one)
            self.assertIs(wrongs.is_doubt_paper(chart, history, (0,), (world, (), one)), wanted, one)

    def test_fewest_proofs(self):
        seen = set()
        for chosen, chart, history, doubts in self.each_case("proofs"):
            if len(doubts) > 4:
                continue
            for spot in plain.subsets(chart[0])[:2]:
                first, name = chosen.choice(NAMES), chosen.choice(NAMES)
                fit = []
                for kinds in product((True, False, None), repeat=len(doubts)):
                    pairs = tuple((doubt, counts) for doubt, counts in zip(doubts, kinds) if counts is not None)
                    fitting = [choice for choice in choices(doubts)
                               if all((doubt in choice) == counts for doubt, counts in pairs)]
                    if all(by_choice(history, doubts, choice, spot, first) == name for choice in fitting):
                        fit.append((len(pairs), pairs))
                if fit:
                    self.assertEqual(wrongs.fewest_proofs(history, doubts, spot, first, name), min(fit)[1])
                    seen.add(min(fit)[0])
                else:
                    with self.assertRaises(CanNot):
                        wrongs.fewest_proofs(history, doubts, spot, first, name)
        self.assertLessEqual({0, 1, 2}, seen)


class Moved(unittest.TestCase):
    def test_moved(self):
        seen = set()
        for chart, history in CASES:
            places = range(len(history))
            for place in places:
                fit = []
                for other in places:
                    deeds = [deed for at, deed in enumerate(history) if at != place]
                    wanted = tuple(deeds[:other]) + (history[place],) + tuple(deeds[other:])
                    self.assertEqual(wrongs.moved(history, place, other), wanted)
                    land = plain_deeds.parted(chart, history, wanted)
                    self.assertEqual(wrongs.late_land(chart, history, place, other), land)
                    if not land:
                        fit.append(other)
                self.assertEqual(wrongs.latest(chart, history, place), max(fit))
                self.assertEqual(wrongs.earliest(chart, history, place), min(fit))
                seen.add((max(fit) - place, min(fit) - place))
        self.assertGreater(len(seen), 8)

    def test_what_lies_between_may_be_no_place_for_it(self):
        chart, all_land = ((), ()), ((),)
        history = (("swap", "ann", "bob", all_land),) + (("swap", "ann", "cid", all_land),) * 2
        self.assertEqual(wrongs.late_land(chart, history, 0, 1), ((),))
        self.assertEqual((wrongs.latest(chart, history, 0), wrongs.earliest(chart, history[::-1], 2)), (2, 0))
        history = (("vest", "ann", all_land), ("vest", "bob", all_land), ("vest", "ann", all_land))
        self.assertEqual((wrongs.latest(chart, history, 0), wrongs.earliest(chart, history, 2)), (2, 2))
        self.assertEqual(wrongs.late_land(chart, history, 1, 2), ((),))


if __name__ == "__main__":
    unittest.main()
