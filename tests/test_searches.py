"""Searches beside a plain look: all fillings by those who stand in the VIEW, by first owners and by strangers."""

import unittest
from itertools import product
from random import Random

from landpoints import searches
from landpoints.errors import CanNot, Unfit
from tests import grounds, histories, plain, plain_deeds

WORDS = ("give", "give", "give", "vest", "swap", "way", "charge")


def hidden(history, places):
    """The VIEW in which the takers at these places are not seen."""
    view = []
    for place, deed in enumerate(history):
        if place in places and deed[0] == "give":
            deed = ("give", deed[1], "", deed[3])
        if place in places and deed[0] == "vest":
            deed = ("vest", "", deed[2])
        view.append(deed)
    return tuple(view)


def takers(history):
    return [place for place, deed in enumerate(history) if deed[0] in ("give", "vest")]


def unseen(view):
    return [place for place, deed in enumerate(view) if deed[0] in ("give", "vest") and "" in deed[1:-1]]


def fillings(view, named=()):
    """All fillings by the people of the VIEW, by these, and by strangers: one more than there are unseen takers."""
    places = unseen(view)
    names = sorted({*plain_deeds.people(view), *named, *("xan", "yul", "zed", "zoe")[:len(places) + 1]})
    for chosen in product(names, repeat=len(places)):
        filling = list(view)
        for place, name in zip(places, chosen):
            deed = view[place]
            filling[place] = ("vest", name, deed[2]) if deed[0] == "vest" else ("give", deed[1], name, deed[3])
        if all(deed[0] != "give" or deed[1] != deed[2] for deed in filling):
            yield tuple(filling)


def walk(history, spot, first):
    """The owners along, as plain_deeds.owners, by fewer steps."""
    row = [first]
    for deed in history:
        turns = deed[0] in ("give", "vest", "swap") and plain.is_in(spot, deed[-1])
        row.append(plain_deeds.owner_after(deed, row[-1]) if turns else row[-1])
    return row


def chain(history, spot, first):
    """By the definition of the document."""
    row = walk(history, spot, first)
    over = [place for place in range(len(history)) if plain.is_in(spot, history[place][-1])]
    vests = [place for place in over if history[place][0] == "vest"]
    gives = [place for place in over if history[place][0] == "give" and history[place][1] == row[place]]
    return tuple(vests[-1:] + [place for place in gives if not vests or place > vests[-1]])


def least(chart, history, cut, firsts):
    return tuple(sorted({place for spot in plain.land(chart, cut) for first in firsts
                         for place in chain(history, spot, first)}))


def view_cases(name, many, longest=4, most=2):
    """Triples (chart, history, view): no taker seen, each one seen, and between; at most three not seen."""
    chosen = Random(name)
    for chart, history in histories.cases(name, many, most, longest, WORDS):
        places = takers(history)
        for hide in ((), places[-3:], chosen.sample(places, min(len(places), chosen.randint(0, 3)))):
            yield chart, history, hidden(history, hide)


def some_firsts(chosen):
    return tuple(sorted(chosen.sample(("a", "ann", "bob", "cid", "eve", "xan"), chosen.randint(0, 2))))


class Views(unittest.TestCase):
    def test_views(self):
        for chart, history, view in view_cases("views", 40):
            self.assertIs(searches.is_view(chart, view), True)
            self.assertEqual(searches.unseen_places(view), tuple(unseen(view)))
            for filling in fillings(view):
                self.assertIs(searches.is_filling(chart, view, filling), True)
            for place in takers(history):
                other = hidden(history, (place,))
                wanted = place in unseen(view) or view == other
                self.assertIs(searches.is_filling(chart, view, other), False)
                self.assertIs(searches.is_filling(chart, other, history), True)
                if wanted and view[place] != history[place]:
                    self.assertIs(searches.is_filling(chart, history, view), False)

    def test_seen_at(self):
        for chart, history, view in view_cases("seen", 40):
            for places in plain.subsets(tuple(range(len(view)))):
                rest = [place for place in range(len(view)) if place not in places]
                self.assertEqual(searches.seen_at(view, places), hidden(view, rest))

    def test_with_taker(self):
        told = 0
        for chart, history, view in view_cases("taker", 60):
            for place, deed in enumerate(view):
                for name in ("ann", "bob", "zed"):
                    if place not in unseen(view) or deed[0] == "give" and deed[1] == name:
                        with self.assertRaises(Unfit):
                            searches.with_taker(view, place, name)
                        continue
                    new = ("vest", name, deed[2]) if deed[0] == "vest" else ("give", deed[1], name, deed[3])
                    self.assertEqual(searches.with_taker(view, place, name), view[:place] + (new,) + view[place + 1:])
                    told += 1
        self.assertGreater(told, 30)


class Owners(unittest.TestCase):
    def test_sure_and_may(self):
        nobody = 0
        for chart, history, view in view_cases("may", 120):
            for first in ("a", "ann", "eve"):
                filled = list(fillings(view, (first,)))
                known = {*plain_deeds.people(view), first}
                sure = {}
                for spot in plain.let(chart):
                    ends = {walk(filling, spot, first)[-1] for filling in filled}
                    sure[spot] = ends.pop() if len(ends) == 1 else None
                    ends = {walk(filling, spot, first)[-1] for filling in filled}
                    self.assertEqual(searches.sure_owner(view, spot, first), sure[spot])
                    self.assertEqual(searches.may_own(view, spot, first),
                                     tuple(sorted({name if name in known else "" for name in ends})))
                    nobody += sure[spot] is None
                for name in ("ann", "b", "bob", "eve", "zed"):
                    self.assertEqual(searches.land_sure_of(chart, view, first, name),
                                     plain_deeds.spots_where(chart, lambda spot: sure[spot] == name))
        self.assertGreater(nobody, 50)

    def test_unsure_land(self):
        chosen = Random("unsure")
        for chart, history, view in view_cases("unsure", 40):
            firsts = some_firsts(chosen)
            filled = list(fillings(view, firsts))
            wanted = plain_deeds.spots_where(chart, lambda spot: any(
                len({walk(filling, spot, first)[-1] for filling in filled}) > 1 for first in firsts))
            self.assertEqual(searches.unsure_land(chart, view, firsts), wanted)

    def test_the_giver_who_owns_and_is_alone(self):
        view = (("vest", "", ((),)), ("give", "ann", "", ((),)))
        self.assertEqual(searches.may_own(view, (), "ann"), ("",))
        self.assertIsNone(searches.sure_owner(view, (), "ann"))
        self.assertEqual(searches.may_own(view, (), "bob"), ("", "bob"))
        self.assertEqual(searches.may_own(view[:1], (), "bob"), ("", "bob"))


class Searches(unittest.TestCase):
    def test_chain(self):
        for chart, history in histories.cases("chain", 150, 2, 5, WORDS):
            for spot in plain.let(chart):
                for first in plain_deeds.firsts(history):
                    self.assertEqual(searches.chain(history, spot, first), chain(history, spot, first))

    def test_all_sets_of_places(self):
        chosen = Random("sets")
        count = 0
        for chart, history in histories.cases("sets", 200, 2, 5, WORDS):
            if len(takers(history)) > 3:
                continue
            firsts, cut = some_firsts(chosen), histories.some_cut(chosen, chart)
            asked = [(spot, first) for spot in plain.land(chart, cut) for first in firsts]
            found = []
            for places in plain.subsets(tuple(range(len(history)))):
                view = hidden(history, [place for place in range(len(history)) if place not in places])
                filled = list(fillings(view, firsts))
                sure = all(len({walk(filling, *case)[-1] for filling in filled}) == 1 for case in asked)
                self.assertIs(searches.is_search(chart, history, cut, firsts, places), sure)
                if sure:
                    found.append(places)
                    with self.assertRaises(CanNot):
                        searches.unsure_paper(chart, history, cut, firsts, places)
                else:
                    self.look_at_paper(chart, history, cut, firsts, places)
                    count += 1
            wanted = searches.least_search(chart, history, cut, firsts)
            self.assertIn(wanted, found)
            self.assertEqual(wanted, least(chart, history, cut, firsts))
            self.assertTrue(all(set(wanted) <= set(places) for places in found))
        self.assertGreater(count, 50)

    def look_at_paper(self, chart, history, cut, firsts, places):
        paper = searches.unsure_paper(chart, history, cut, firsts, places)
        other, world = paper
        (spot, _, first), = world
        self.assertEqual([deed for place, deed in enumerate(other) if place in places],
                         [deed for place, deed in enumerate(history) if place in places])
        self.assertIs(searches.is_filling(chart, hidden(history, takers(history)), other), True)
        self.assertTrue(plain.is_in(spot, cut) and spot in plain.let(chart) and first in firsts)
        self.assertNotEqual(walk(other, spot, first)[-1], walk(history, spot, first)[-1])
        self.assertIs(searches.is_unsure_paper(chart, history, cut, firsts, places, paper), True)
        self.assertIs(searches.is_unsure_paper(chart, history, cut, firsts, places, (history, world)), False)

    def test_is_unsure_paper(self):
        chosen = Random("papers")
        seen = {True: 0, False: 0}
        for chart, history, view in view_cases("papers", 60):
            if not plain.let(chart):
                continue
            firsts, cut = ("ann", "bob"), histories.some_cut(chosen, chart)
            places = tuple(place for place in range(len(history)) if place not in unseen(view))
            fits = list(fillings(view))
            for other in chosen.sample(fits, min(5, len(fits))) + [history[1:], history[::-1]]:
                spot, first = chosen.choice(plain.let(chart)), chosen.choice(("ann", "bob", "cid"))
                wanted = (other in fits and plain.is_in(spot, cut) and first in firsts
                          and walk(other, spot, first)[-1] != walk(history, spot, first)[-1])
                for size in (1, 10 ** 40):
                    paper = (other, ((spot, size, first),))
                    self.assertIs(searches.is_unsure_paper(chart, history, cut, firsts, places, paper), wanted)
                seen[wanted] += 1
                point = (spot, 1, first)
                for world in ((), (point, point)):
                    self.assertIs(searches.is_unsure_paper(chart, history, cut, firsts, places, (other, world)), False)
        self.assertGreater(min(seen.values()), 15)


class Looks(unittest.TestCase):
    def test_looks(self):
        chosen = Random("looks")
        some = 0
        for chart, history, view in view_cases("looks", 200):
            firsts, cut = some_firsts(chosen), histories.some_cut(chosen, chart)
            each = [set(least(chart, filling, cut, firsts)) for filling in fillings(view, firsts)]
            wanted = tuple(sorted(set.intersection(*each) & set(unseen(view))))
            self.assertEqual(searches.next_looks(chart, view, cut, firsts), wanted)
            self.assertEqual(searches.ever_looked(chart, view, cut, firsts), tuple(sorted(set.union(*each))))
            unsure = set(searches.unsure_land(chart, view, firsts)) & set(plain.land(chart, cut))
            self.assertEqual(wanted == (), unsure == set())
            some += wanted != ()
        self.assertGreater(some, 20)

    def test_most_looks(self):
        for chart, history, view in view_cases("most", 150, 5):
            for spot in plain.let(chart):
                for first in ("a", "ann", "bob", "zed"):
                    wanted = max(len(chain(filling, spot, first)) for filling in fillings(view, (first,)))
                    self.assertEqual(searches.most_looks(view, spot, first), wanted)

    def test_saved_looks(self):
        chosen = Random("saved")
        some = 0
        for chart, history in histories.cases("saved", 300, 2, 5, WORDS):
            firsts, cut = some_firsts(chosen) + ("zed",), histories.some_cut(chosen, chart)
            condition = chosen.choice(plain.all_conditions(chart[0]))
            later = (chart[0], tuple(sorted({*chart[1], condition})))
            wanted = set(least(chart, history, cut, firsts)) - set(least(later, history, cut, firsts))
            self.assertEqual(searches.saved_looks(chart, history, cut, firsts, condition), tuple(sorted(wanted)))
            some += bool(wanted)
        self.assertGreater(some, 15)

    def test_left_behind(self):
        seen = set()
        for chart, history, view in view_cases("behind", 160, 5, 1):
            filled = list(fillings(view))
            told = plain_deeds.firsts(view)
            fits = [many for many in range(len(view) + 1)
                    if all(walk(filling, spot, first)[-1] == walk(filling[many:], spot, first)[-1]
                           for filling in filled for spot in plain.let(chart) for first in told)]
            self.assertEqual(searches.left_behind(chart, view), max(fits))
            seen.add((max(fits), len(view) - max(fits)))
        self.assertGreater(len(seen), 6)

    def test_what_comes_between_may_not_be_left_behind(self):
        all_land = ((),)
        view = (("swap", "ann", "bob", all_land), ("swap", "ann", "bob", all_land))
        self.assertEqual(searches.left_behind(((), ()), view), 2)
        self.assertEqual(searches.left_behind(((), ()), view + view[:1]), 2)
        self.assertEqual(searches.left_behind(((), ((),)), view + view[:1]), 3)
        self.assertEqual(searches.left_behind(((), ()), ()), 0)


class Asked(unittest.TestCase):
    def test_searched(self):
        chosen = Random("asked")
        many = 0
        for chart, history, view in view_cases("asked", 120, 5):
            firsts, cut = some_firsts(chosen), histories.some_cut(chosen, chart)
            for truth in (history, chosen.choice(list(fillings(view, firsts)))):
                asked = []

                def asker(place):
                    asked.append(place)
                    deed = truth[place]
                    return deed[-2]

                result = searches.searched(chart, view, cut, firsts, asker)
                self.assertEqual(len(asked), len(set(asked)))
                self.assertLessEqual(set(asked), set(least(chart, truth, cut, firsts)) & set(unseen(view)))
                rest = [place for place in unseen(view) if place not in asked]
                self.assertEqual(result, hidden(truth, rest))
                for spot in plain.land(chart, cut):
                    for first in firsts:
                        self.assertEqual(searches.sure_owner(result, spot, first), walk(truth, spot, first)[-1])
                many += len(asked)
        self.assertGreater(many, 40)

    def test_nobody_is_asked(self):
        history = (("give", "ann", "bob", ((),)), ("vest", "cid", ((),)))
        chart = ((), ())

        def asker(place):
            raise AssertionError(place)

        self.assertEqual(searches.searched(chart, history, ((),), ("ann",), asker), history)
        for cut, firsts in (((), ("ann",)), (((),), ())):
            view = hidden(history, (0, 1))
            self.assertEqual(searches.searched(chart, view, cut, firsts, asker), view)
        self.assertEqual(searches.searched(chart, hidden(history, (0,)), ((),), ("ann",), asker), hidden(history, (0,)))

    def test_what_the_asker_raises(self):
        class Closed(Exception):
            pass

        view = (("give", "ann", "", ((),)),)
        for error in (Closed(7), KeyError("x"), ValueError("y"), ZeroDivisionError()):
            def asker(place):
                raise error

            with self.assertRaises(type(error)) as caught:
                searches.searched(((), ()), view, ((),), ("ann",), asker)
            self.assertIs(caught.exception, error)

    def test_the_asker_is_passed_one_number(self):
        view = [["give", "ann", "", [[]]], ["give", "bob", "", [[]]]]
        told = {0: "bob", 1: "ann"}
        self.assertEqual(searches.searched([[], []], view, [[]], ["ann"], told.get),
                         (("give", "ann", "bob", ((),)), ("give", "bob", "ann", ((),))))


class Guarantees(unittest.TestCase):
    def test_sure_exactly_if_no_stranger_owns(self):
        for chart, history, view in view_cases("strangers", 60):
            names = iter(("saa", "sbb", "scc", "sdd"))
            filling = list(view)
            for place in unseen(view):
                deed = view[place]
                name = next(names)
                filling[place] = ("vest", name, deed[2]) if deed[0] == "vest" else ("give", deed[1], name, deed[3])
            for spot in plain.let(chart):
                for first in ("ann", "eve"):
                    stranger = walk(filling, spot, first)[-1] in ("saa", "sbb", "scc", "sdd")
                    self.assertIs(searches.sure_owner(view, spot, first) is None, stranger)

    def test_bare_land(self):
        chart, view = (("a",), ((),)), (("vest", "", ((),)), ("give", "ann", "", grounds.ALL))
        for wanted, found in (((), searches.unsure_land(chart, view, ("ann",))),
                              ((), searches.next_looks(chart, view, ((),), ("ann",))),
                              ((), searches.ever_looked(chart, view, ((),), ("ann",))),
                              ((), searches.land_sure_of(chart, view, "ann", "ann")),
                              (2, searches.left_behind(chart, view))):
            self.assertEqual(found, wanted)


if __name__ == "__main__":
    unittest.main()
