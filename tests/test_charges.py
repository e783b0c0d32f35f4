"""Charges beside a plain look: rows SPOT by SPOT and DEED by DEED, and all orders of the charges."""

import unittest
from itertools import combinations, permutations
from random import Random

from landpoints import charges
from tests import histories, plain, plain_deeds

WORDS = ("charge", "charge", "charge", "lift", "yield", "yield", "give", "whole", "way", "vest")
CASES = (histories.cases("charges", 250, 2, 6, WORDS) + histories.cases("rows", 150, 3, 9, WORDS[:6])
         + histories.cases("four", 60, 2, 7, WORDS[:6], histories.PEOPLE, ("debt", "due", "loan", "rent")))
NAMES = ("a", "b", "c", "d", "debt", "due", "loan", "none", "rent")


def tangled(many):
    """HISTORIES whose charges come in one order here, in another one there."""
    chosen, chart = Random("tangled"), (("a", "b"), ())
    cuts = [(condition,) for condition in plain.all_conditions(chart[0])][1:]
    return [(chart, tuple(histories.some_deed(chosen, chosen.choice(("charge", "charge", "charge", "yield")), cuts)
                          for _ in range(chosen.randint(2, 9)))) for _ in range(many)]


def row(history, spot):
    return plain_deeds.end(history, ((spot, 1, "ann"),)).rows[0]


def rows(chart, history):
    return {spot: row(history, spot) for spot in plain.let(chart)}


def is_ahead(told, one, other):
    return one in told and other in told[told.index(one) + 1:]


def is_round(chart, history, thing):
    told = rows(chart, history).values()
    return all(any(is_ahead(told_row, one, other) for told_row in told)
               for one, other in zip(thing, thing[1:] + thing[:1]))


class Rows(unittest.TestCase):
    def test_rows(self):
        longest = 0
        for chart, history in CASES:
            named = {name for deed in history if deed[0] in ("charge", "lift", "yield") for name in deed[1:-1]}
            self.assertEqual(charges.charges_in(history), tuple(sorted(named)))
            for spot in plain.subsets(chart[0]):
                self.assertEqual(charges.charges_behind(history, spot), row(history, spot))
                longest = max(longest, len(row(history, spot)))
            lands = {}
            for spot, told in rows(chart, history).items():
                lands[told] = lands.get(told, ()) + (spot,)
            self.assertEqual(charges.charge_table(chart, history), tuple(sorted(lands.items())))
        self.assertEqual(longest, 4)

    def test_each_deed(self):
        stood = ("charge", "debt", ((),)), ("charge", "loan", ((),)), ("charge", "rent", ((),))
        for deed, wanted in ((("charge", "debt", ((),)), ("debt", "loan", "rent")),
                             (("charge", "due", ((),)), ("debt", "loan", "rent", "due")),
                             (("lift", "loan", ((),)), ("debt", "rent")), (("lift", "due", ((),)),
                                                                           ("debt", "loan", "rent")),
                             (("yield", "debt", "loan", ((),)), ("loan", "debt", "rent")),
                             (("yield", "debt", "rent", ((),)), ("loan", "rent", "debt")),
                             (("yield", "rent", "debt", ((),)), ("debt", "loan", "rent")),
                             (("yield", "debt", "due", ((),)), ("debt", "loan", "rent")),
                             (("yield", "due", "debt", ((),)), ("debt", "loan", "rent")),
                             (("lift", "debt", ()), ("debt", "loan", "rent"))):
            self.assertEqual(charges.charges_behind(stood + (deed,), ()), wanted)
        again = stood + (("lift", "debt", ((),)), ("charge", "debt", ((),)))
        self.assertEqual(charges.charges_behind(again, ()), ("loan", "rent", "debt"))

    def test_people_are_no_charges(self):
        history = (("charge", "a", ((),)), ("charge", "b", ((),)), ("give", "a", "b", ((),)), ("swap", "a", "b", ((),)),
                   ("whole", "a", "b", ((),)), ("vest", "a", ((),)), ("way", ((),), ((),)))
        self.assertEqual(charges.charges_behind(history, ()), ("a", "b"))
        self.assertEqual(charges.charges_in(history[2:]), ())
        self.assertEqual(charges.idle_charges(((), ()), history), ())

    def test_lands(self):
        for chart, history in CASES:
            told = rows(chart, history)
            for name in NAMES:
                stands = plain_deeds.spots_where(chart, lambda spot: name in told[spot])
                self.assertEqual(charges.charge_land(chart, history, name), stands)
                ranks = {spot: told[spot].index(name) for spot in stands}
                self.assertEqual(charges.worst_rank(chart, history, name), max(ranks.values()) if ranks else None)
                for rank in (-1, 0, 1, 2, 3, 4, 10 ** 30, -10 ** 30):
                    wanted = tuple(spot for spot in stands if ranks[spot] == rank)
                    self.assertEqual(charges.rank_land(chart, history, name, rank), wanted)
                lands = []
                for other in NAMES:
                    ahead = plain_deeds.spots_where(chart, lambda spot: is_ahead(told[spot], other, name))
                    self.assertEqual(charges.ahead_land(chart, history, other, name), ahead)
                    if ahead:
                        lands.append((other, ahead))
                self.assertEqual(charges.must_yield(chart, history, name), tuple(lands))

    def test_two_histories(self):
        chosen = Random("two")
        seen = set()
        for chart, history in CASES:
            for second in (history[1:], history[::-1], histories.some_history(chosen, chart[0], 4, WORDS)):
                land = plain_deeds.spots_where(chart, lambda spot: row(history, spot) != row(second, spot))
                self.assertEqual(charges.charges_part(chart, history, second), land)
                self.assertIs(charges.charges_alike(chart, history, second), land == ())
                seen.add(land == ())
            idle = tuple(place for place, deed in enumerate(history) if deed[0] in ("charge", "lift", "yield")
                         and rows(chart, history) == rows(chart, plain_deeds.left(history, (place,))))
            self.assertEqual(charges.idle_charges(chart, history), idle)
        self.assertEqual(seen, {True, False})


class Guarantees(unittest.TestCase):
    def test_behind_their_yields_it_stands_first(self):
        chosen = Random("yields")
        for chart, history in CASES:
            for name in NAMES:
                pairs = list(charges.must_yield(chart, history, name))
                chosen.shuffle(pairs)
                exact = [("yield", other, name, tuple(sorted(tuple((area, area in spot) for area in chart[0])
                                                             for spot in land))) for other, land in pairs]
                told = rows(chart, history + tuple(exact))
                self.assertTrue(all(name not in told[spot] or told[spot][0] == name for spot in told))

    def test_no_charge_comes_behind_more_but_the_first_of_a_yield(self):
        for chart, history in CASES:
            for spot in plain.let(chart):
                for place, deed in enumerate(history):
                    one = charges.charges_behind(history[:place], spot)
                    other = charges.charges_behind(history[:place + 1], spot)
                    for name in set(one) & set(other):
                        if deed[0] != "yield" or name != deed[1]:
                            self.assertLessEqual(set(other[:other.index(name)]), set(one[:one.index(name)]) | set(other)
                                                 if deed[0] == "yield" else set(one[:one.index(name)]))
                            self.assertLessEqual(other.index(name), one.index(name))


class OneRow(unittest.TestCase):
    def test_all_orders(self):
        seen = {True: 0, False: 0}
        for chart, history in CASES[::3] + tangled(120):
            told = rows(chart, history).values()
            standing = sorted({name for told_row in told for name in told_row})
            fit = [order for order in permutations(standing)
                   if all(told_row == tuple(name for name in order if name in told_row) for told_row in told)]
            wanted = min(fit) if fit else None
            self.assertEqual(charges.one_row(chart, history), wanted)
            found = charges.charge_round(chart, history)
            self.assertEqual(found is None, wanted is not None)
            if found is not None:
                self.assertIsInstance(found, tuple)
                self.assertTrue(len(found) >= 2 and len(set(found)) == len(found))
                self.assertTrue(is_round(chart, history, found))
            self.assertIs(charges.is_charge_round(chart, history, found), found is not None)
            for many in range(5):
                for names in permutations(sorted({*standing, "loan", "none"}), many):
                    wanted = many > 1 and is_round(chart, history, names)
                    self.assertIs(charges.is_charge_round(chart, history, names), wanted)
            seen[bool(fit)] += 1
        self.assertGreater(min(seen.values()), 25, seen)

    def test_a_round_of_three(self):
        chart = (("a", "b", "c"), tuple(sorted(tuple(sorted(((one, True), (other, True))))
                                               for one, other in combinations("abc", 2))))
        history = ()
        for area, one, other in (("a", "debt", "loan"), ("b", "loan", "rent"), ("c", "rent", "debt")):
            cut = (((area, True),),)
            history += (("charge", one, cut), ("charge", other, cut))
        self.assertIsNone(charges.one_row(chart, history))
        found = charges.charge_round(chart, history)
        self.assertEqual(sorted(found), ["debt", "loan", "rent"])
        for thing, wanted in ((("debt", "loan", "rent"), True), (("loan", "rent", "debt"), True),
                              (("rent", "loan", "debt"), False), (("debt", "loan"), False),
                              (("debt", "loan", "rent", "debt", "loan", "rent"), False)):
            self.assertIs(charges.is_charge_round(chart, history, thing), wanted)
        self.assertEqual(charges.one_row(chart, history[:4]), ("debt", "loan", "rent"))

    def test_nothing_stands(self):
        for chart, history in ((((), ()), ()), (((), ((),)), (("charge", "debt", ((),)),)),
                               ((("a",), ()), (("charge", "debt", ()), ("lift", "debt", ((),))))):
            self.assertEqual(charges.one_row(chart, history), ())
            self.assertIsNone(charges.charge_round(chart, history))
            self.assertIsNone(charges.worst_rank(chart, history, "debt"))
            self.assertEqual(charges.must_yield(chart, history, "debt"), ())


if __name__ == "__main__":
    unittest.main()
