"""Offices beside a plain look: all pairs of LET SPOTS, all sets of AREAS and of offices, all tables of signs."""

import unittest
from itertools import combinations, permutations, product
from random import Random

from landpoints import offices
from landpoints.errors import NoArea, NoOffice
from tests import grounds, histories, plain, plain_deeds

TITLES = ("give", "give", "vest", "vest", "swap")


def answer(question, spot):
    if question[0] == "in":
        return plain.is_in(spot, question[1])
    if question[0] == "from":
        return plain_deeds.owner(question[2], spot, question[1])
    owners = {plain_deeds.owner(question[1], spot, first) for first in plain_deeds.firsts(question[1])}
    return owners.pop() if len(owners) == 1 else None


def seen(own, spot):
    return tuple(sorted(set(own) & set(spot)))


class Looked:
    """The answers at all LET SPOTS of a MAP, and what is told by looking at all pairs of them."""

    def __init__(self, chart, question):
        self.chart, self.let = chart, plain.let(chart)
        self.answers = {spot: answer(question, spot) for spot in self.let}

    def is_own(self, own):
        return all(self.answers[one] == self.answers[other] for one, other in combinations(self.let, 2)
                   if seen(own, one) == seen(own, other))

    def is_enough(self, own, names):
        return all(self.answers[one] == self.answers[other] for one, other in combinations(self.let, 2)
                   if seen(own, one) == seen(own, other) and seen(names, one) == seen(names, other))

    def views(self, own):
        return sorted({seen(own, spot) for spot in self.let})

    def is_letter(self, own, far_own, table):
        """Whether one who has far_own can tell the answers by the sign and the own view."""
        told = {}
        for spot in self.let:
            key = table[seen(own, spot)], seen(far_own, spot)
            if told.setdefault(key, self.answers[spot]) != self.answers[spot]:
                return False
        return True

    def fewest_signs(self, own, far_own):
        views = self.views(own)
        for many in range(len(views) + 1):
            for signs in product(range(many), repeat=len(views)):
                if self.is_letter(own, far_own, dict(zip(views, signs))):
                    return many
        return None

    def is_sure_in(self, asks, condition):
        """Whether by some way to ask so many AREAS, each as the answers ahead of it go, the answer is sure."""
        kept = [spot for spot in self.let if plain.keeps(spot, condition)]
        if len({self.answers[spot] for spot in kept}) < 2:
            return True
        return asks > 0 and any(self.is_sure_by(asks, condition, name) for name in self.chart[0])

    def is_sure_by(self, asks, condition, name):
        if name in dict(condition):
            # What is known already is answered so again.
            return self.is_sure_in(asks - 1, condition)
        return all(self.is_sure_in(asks - 1, tuple(sorted(condition + ((name, inside),)))) for inside in (True, False))

    def asks(self, condition):
        return next(many for many in range(6) if self.is_sure_in(many, condition))


def least(sets):
    return min(sets, key=lambda one: (len(one), one), default=None)


def some_question(chosen, chart):
    kind = chosen.choice(("in", "owner", "from"))
    if kind == "in":
        return kind, histories.some_cut(chosen, chart)
    history = histories.some_history(chosen, chart[0], 4, TITLES + ("way", "charge"), histories.PEOPLE[:3])
    return (kind, history) if kind == "owner" else (kind, chosen.choice(("ann", "bob", "xan")), history)


def some_offices(chosen, areas):
    """One to three OFFICES; some have no own areas, some all, and some the same."""
    sets = plain.subsets(areas)
    rows = [tuple(chosen.choice(sets) for _ in range(chosen.randint(1, 3))), ((), areas), (areas, areas, ()),
            (sets[-1], sets[-1]), tuple((area,) for area in areas) or ((),), ((),)]
    return rows[min(chosen.randint(0, 9), 5)] if chosen.random() < 0.6 else rows[0]


def cases(name, many, most=3):
    chosen = Random(name)
    found = [(((), ()), ((),), ("in", ())), (((), ()), ((), ()), ("owner", ())), (((), ((),)), ((),), ("in", ((),))),
             ((("a", "b"), ((),)), (("a",), ("b",)), ("in", ((("a", True),),))),
             ((("a", "b"), ()), (("a", "b"), ()), ("from", "ann", ()))]
    for _ in range(many):
        chart = chosen.choice(grounds.maps(most, 6)) if chosen.random() < 0.9 else chosen.choice(grounds.great_maps())
        found.append((chart, some_offices(chosen, chart[0]), some_question(chosen, chart)))
    return found


class Tells(unittest.TestCase):
    def test_answers_and_views(self):
        seen_answers = set()
        for chart, row, question in cases("answers", 400):
            for spot in plain.subsets(chart[0]):
                wanted = answer(question, spot)
                told = offices.answer_at(question, spot)
                self.assertTrue(plain.same(told, wanted))
                seen_answers.add((question[0], told))
                for office, own in enumerate(row):
                    self.assertEqual(offices.view(row, office, spot), seen(own, spot))
        self.assertLessEqual({("in", True), ("in", False), ("owner", None), ("owner", "ann"), ("from", "bob")},
                             seen_answers)

    def test_an_answer_told_whole(self):
        """A "vest" tells who owns, whoever did first; a "give" does not."""
        all_land = ((),)
        row = (("vest", "ann", all_land), ("give", "ann", "bob", all_land))
        self.assertEqual(offices.answer_at(("owner", row), ()), "bob")
        self.assertIsNone(offices.answer_at(("owner", (("give", "ann", "bob", all_land),)), ()))
        self.assertIsNone(offices.answer_at(("owner", ()), ()))
        self.assertEqual(offices.answer_at(("from", "zed", ()), ()), "zed")

    def test_own(self):
        kinds = set()
        for chart, row, question in cases("own", 500):
            look = Looked(chart, question)
            owned = tuple(office for office, own in enumerate(row) if look.is_own(own))
            self.assertEqual(offices.own_offices(chart, row, question), owned)
            for office, own in enumerate(row):
                self.assertIs(offices.is_own(chart, row, office, question), office in owned)
                land = tuple(spot for spot in look.let
                             if all(look.answers[spot] == look.answers[other]
                                    for other in look.let if seen(own, spot) == seen(own, other)))
                self.assertEqual(offices.own_land(chart, row, office, question), land)
                kinds.add((question[0], office in owned, bool(land)))
        self.assertGreaterEqual(len(kinds), 8, kinds)

    def test_papers(self):
        told = set()
        for chart, row, question in cases("papers", 400):
            look = Looked(chart, question)
            for office, own in enumerate(row):
                paper = offices.office_paper(chart, row, office, question)
                self.assertEqual(paper is None, look.is_own(own))
                self.assertIs(offices.is_office_paper(chart, row, office, question, paper), paper is not None)
                if paper is not None:
                    (one, _, _), (other, _, _) = paper
                    self.assertTrue(one in look.let and other in look.let and seen(own, one) == seen(own, other))
                    self.assertNotEqual(look.answers[one], look.answers[other])
                told.add(paper is None)
                for one, other in list(permutations(look.let, 2))[:12]:
                    world = ((one, 3, "ann"), (other, 10 ** 30, "zed"))
                    wanted = seen(own, one) == seen(own, other) and look.answers[one] != look.answers[other]
                    self.assertIs(offices.is_office_paper(chart, row, office, question, world), wanted)
        self.assertEqual(told, {True, False})

    def test_together(self):
        found = set()
        for chart, row, question in cases("together", 400):
            look = Looked(chart, question)
            fit = []
            for some in plain.subsets(range(len(row))):
                own = {area for office in some for area in row[office]}
                self.assertIs(offices.are_together(chart, row, some, question), look.is_own(own))
                if look.is_own(own):
                    fit.append(some)
            self.assertEqual(offices.fewest_offices(chart, row, question), least(fit))
            found.add(least(fit))
        self.assertLessEqual({None, (), (0,), (1,), (0, 1)}, found)

    def test_knows_as_much(self):
        """Beside all QUESTIONS ("in", cut): one for each LAND."""
        seen_answers = set()
        for chart, row, _ in cases("much", 300):
            let = plain.let(chart)
            for office, other in product(range(len(row)), repeat=2):
                told = offices.knows_as_much(chart, row, office, other)
                own = row[office]
                pairs = [(one, far) for one, far in combinations(let, 2) if seen(own, one) == seen(own, far)]
                self.assertIs(told, all(seen(row[other], one) == seen(row[other], far) for one, far in pairs))
                seen_answers.add(told)
                if len(let) <= 4:
                    cuts = [tuple(tuple((area, area in spot) for area in chart[0]) for spot in land)
                            for land in plain.subsets(let)]
                    looks = [Looked(chart, ("in", cut)) for cut in cuts]
                    self.assertIs(told, all(look.is_own(row[office]) for look in looks if look.is_own(row[other])))
        self.assertEqual(seen_answers, {True, False})

    def test_homes(self):
        chosen = Random("homes")
        found = set()
        for chart, row, _ in cases("homes", 300):
            cuts = grounds.some_cuts(chart[0], 4, 2)
            deed = histories.some_deed(chosen, chosen.choice(histories.ALL_WORDS + ("whole",)), cuts)
            parts = deed[1:] if deed[0] in ("way", "end") else deed[-1:]
            looks = [Looked(chart, ("in", cut)) for cut in parts]
            wanted = tuple(office for office, own in enumerate(row) if all(look.is_own(own) for look in looks))
            self.assertEqual(offices.home_offices(chart, row, deed), wanted)
            found.add((deed[0] in ("way", "end"), len(wanted)))
        self.assertLessEqual({(True, 0), (True, 1), (False, 0), (False, 2)}, found)


class Asks(unittest.TestCase):
    def test_sets_of_asks(self):
        found = set()
        for chart, row, question in cases("sets", 300):
            look = Looked(chart, question)
            for office, own in enumerate(row):
                fit = []
                for names in plain.subsets(chart[0]):
                    wanted = look.is_enough(own, names)
                    self.assertIs(offices.is_enough(chart, row, office, question, names), wanted)
                    if wanted:
                        fit.append(names)
                self.assertEqual(offices.fewest_asks(chart, row, office, question), least(fit))
                needed = tuple(area for area in chart[0] if all(area in names for names in fit))
                self.assertEqual(offices.needed_asks(chart, row, office, question), needed)
                found.add((len(least(fit)), len(needed)))
        self.assertLessEqual({(0, 0), (1, 0), (1, 1), (2, 1), (2, 2)}, found)

    def test_asks_one_behind_another(self):
        found = set()
        for chart, _, question in cases("asks", 150):
            look = Looked(chart, question)
            for condition in plain.all_conditions(chart[0])[:30]:
                many = look.asks(condition)
                self.assertEqual(offices.asks_behind(chart, question, condition), many)
                fit = [name for name in chart[0] if many and look.is_sure_by(many, condition, name)]
                self.assertEqual(offices.next_ask(chart, question, condition), min(fit, default=None))
                found.add((many, min(fit, default=None)))
        self.assertLessEqual({(0, None), (1, "a"), (1, "b"), (2, "a"), (2, "b"), (3, "a")}, found)

    def test_no_spot_keeps_it(self):
        chart, question = (("a", "b"), ((("a", True), ("b", True)),)), ("in", ((("b", True),),))
        self.assertEqual(offices.asks_behind(chart, question, (("a", True), ("b", True))), 0)
        self.assertIsNone(offices.next_ask(chart, question, (("a", True), ("b", True))))
        self.assertEqual(offices.asks_behind(chart, question, (("a", True),)), 0)
        self.assertEqual(offices.asks_behind(chart, question, (("a", False),)), 1)
        self.assertEqual(offices.next_ask(chart, question, (("a", False),)), "b")
        self.assertIsNone(offices.next_ask(((), ()), ("in", ((),)), ()))

    def test_most_asks(self):
        found = set()
        for chart, row, question in cases("most", 200):
            look = Looked(chart, question)
            for office, own in enumerate(row):
                views = {tuple((area, area in spot) for area in own) for spot in look.let}
                wanted = max((look.asks(condition) for condition in views), default=0)
                told = offices.most_asks(chart, row, office, question)
                self.assertEqual(told, wanted)
                self.assertLessEqual(told, len(offices.fewest_asks(chart, row, office, question)))
                found.add(told)
        self.assertLessEqual({0, 1, 2}, found)

    def test_asks_that_hang_on_answers_are_fewer(self):
        """By a the next ask is b or c: two are enough, though no two AREAS are."""
        cut = ((("a", False), ("c", True)), (("a", True), ("b", True)))
        chart = (("a", "b", "c"), ())
        self.assertEqual(offices.most_asks(chart, ((),), 0, ("in", cut)), 2)
        self.assertEqual(offices.fewest_asks(chart, ((),), 0, ("in", cut)), ("a", "b", "c"))
        self.assertEqual(offices.next_ask(chart, ("in", cut), ()), "a")


class Letters(unittest.TestCase):
    def test_beside_all_tables(self):
        found = {}
        for chart, row, question in cases("letters", 260):
            look = Looked(chart, question)
            for office, other in product(range(len(row)), repeat=2):
                views = look.views(row[office])
                if len(views) > 5:
                    continue
                fewest = look.fewest_signs(row[office], row[other])
                self.assertEqual(offices.fewest_signs(chart, row, office, other, question), fewest)
                letter = offices.a_letter(chart, row, office, other, question)
                self.assertEqual(letter is None, fewest is None)
                self.assertIs(offices.is_letter(chart, row, office, other, question, letter), fewest is not None)
                if letter is not None:
                    self.assertEqual([pair[0] for pair in letter], views)
                    self.assertEqual({sign for _, sign in letter}, set(range(fewest)))
                    self.assertTrue(look.is_letter(row[office], row[other], dict(letter)))
                found[fewest] = found.get(fewest, 0) + 1
        self.assertLessEqual({None, 0, 1, 2}, set(found), found)

    def test_is_letter(self):
        chosen = Random("is letter")
        found = {True: 0, False: 0}
        for chart, row, question in cases("is letter", 400):
            look = Looked(chart, question)
            office, other = chosen.randrange(len(row)), chosen.randrange(len(row))
            views = look.views(row[office])
            for signs in ((0, 1), (0, 1, 2), (7, 10 ** 30), tuple(range(20))):
                table = tuple((view, chosen.choice(signs)) for view in views)
                wanted = look.is_letter(row[office], row[other], dict(table))
                self.assertIs(offices.is_letter(chart, row, office, other, question, table), wanted)
                found[wanted] += 1
        self.assertGreater(min(found.values()), 100)

    def test_all_signs_are_wanted(self):
        """Eight views, each of whose points is another person's: by no two of them one sign."""
        areas = ("a", "b", "c")
        exact = [tuple((area, area in spot) for area in areas) for spot in plain.subsets(areas)]
        history = tuple(("vest", "p" + letter, (condition,)) for letter, condition in zip("abcdefgh", exact))
        chart, row = (areas, ()), (areas, ())
        self.assertEqual(offices.fewest_signs(chart, row, 0, 1, ("owner", history)), 8)
        letter = offices.a_letter(chart, row, 0, 1, ("owner", history))
        self.assertEqual(sorted(sign for _, sign in letter), list(range(8)))
        self.assertIs(offices.is_letter(chart, row, 0, 1, ("owner", history), letter), True)
        self.assertIs(offices.is_letter(chart, row, 0, 1, ("owner", history), letter[:-1] + ((areas, 0),)), False)

    def look_at_stars(self, stars, wanted):
        """Views of the first office by their numbers; other has a view of its own for each star, hub and leaves of
        which must have unlike signs, as the hub alone is in the CUT."""
        views, marks, areas = plain.subsets(("a", "b", "c")), plain.subsets(("d", "e")), ("a", "b", "c", "d", "e")
        let, hubs = [], []
        for mark, (hub, leaves) in zip(marks, stars):
            hubs.append(views[hub] + mark)
            let.extend([views[at] + mark for at in (hub, *leaves)])
        exact = {spot: tuple((area, area in spot) for area in areas) for spot in plain.subsets(areas)}
        chart = areas, tuple(sorted(exact[spot] for spot in exact if spot not in let))
        question, row = ("in", tuple(sorted(exact[spot] for spot in hubs))), (("a", "b", "c"), ("d", "e"))
        self.assertEqual(Looked(chart, question).fewest_signs(*row), wanted)
        self.assertEqual(offices.fewest_signs(chart, row, 0, 1, question), wanted)
        letter = offices.a_letter(chart, row, 0, 1, question)
        self.assertTrue(Looked(chart, question).is_letter(*row, dict(letter)))
        self.assertEqual({sign for _, sign in letter}, set(range(wanted)))

    def test_beside_all_tables_of_eight_views(self):
        """Views of the first office at random under each of four views of other, some in the CUT, some not."""
        chosen, areas = Random("eight"), ("a", "b", "c", "d", "e")
        exact = {spot: tuple((area, area in spot) for area in areas) for spot in plain.subsets(areas)}
        found = {}
        for _ in range(60):
            let = [spot for spot in exact if chosen.random() < 0.5]
            question = ("in", tuple(sorted(exact[spot] for spot in let if chosen.random() < 0.4)))
            row = (areas[:3], areas[3:])
            chart = areas, tuple(sorted(exact[spot] for spot in exact if spot not in let))
            many = offices.fewest_signs(chart, row, 0, 1, question)
            look = Looked(chart, question)
            views = look.views(row[0])
            letter = dict(offices.a_letter(chart, row, 0, 1, question))
            self.assertTrue(look.is_letter(*row, letter))
            self.assertEqual(set(letter.values()), set(range(many)))
            # Fewer signs are never enough; what other names they have does not tell.
            lists = product([0], *[range(min(at + 1, many - 1)) for at in range(1, len(views))])
            self.assertFalse(any(look.is_letter(*row, dict(zip(views, signs))) for signs in lists if many > 1))
            found[many] = found.get(many, 0) + 1
        self.assertGreater(min(found.get(many, 0) for many in (2, 3)), 10, found)

    def test_signs_of_five_views_in_a_round(self):
        self.look_at_stars([(0, (1, 4)), (2, (1, 3)), (3, (4,))], 3)

    def test_signs_that_are_not_chosen_one_by_one(self):
        """Who gives each view the first sign that it can have wants a third one."""
        self.look_at_stars([(0, (3, 5)), (2, (1, 5)), (4, (1, 3))], 2)


class Errors(unittest.TestCase):
    chart, row, question = (("a", "b"), ()), (("a",), ()), ("in", ((("b", True),),))

    def raises(self, error, kept, function, *values):
        with self.subTest(function=function.__name__, values=values):
            with self.assertRaises(error) as caught:
                function(*values)
            self.assertIs(type(caught.exception), error)
            self.assertEqual(vars(caught.exception), kept)

    def test_no_office(self):
        chart, row, question = self.chart, self.row, self.question
        for number in (2, 3, -1, -2, 10 ** 30, -10 ** 30):
            kept = {"number": number}
            self.raises(NoOffice, kept, offices.view, row, number, ("a",))
            for function in (offices.is_own, offices.own_land, offices.office_paper, offices.fewest_asks,
                             offices.needed_asks, offices.most_asks):
                self.raises(NoOffice, kept, function, chart, row, number, question)
                self.raises(NoOffice, kept, function, ((), ((),)), ((), ()), number, ("in", ()))
            for thing in (None, True, (), ((("a",), 1, "ann"),) * 2, [], "a"):
                self.raises(NoOffice, kept, offices.is_office_paper, chart, row, number, question, thing)
                self.raises(NoOffice, kept, offices.is_letter, chart, row, number, 9, question, thing)
                self.raises(NoOffice, kept, offices.is_letter, chart, row, 1, number, question, thing)
            for names in ((), ("a",), ("q",), ("a", "q")):
                self.raises(NoOffice, kept, offices.is_enough, chart, row, number, question, names)
            for function in (offices.fewest_signs, offices.a_letter):
                self.raises(NoOffice, kept, function, chart, row, number, 0, question)
                self.raises(NoOffice, kept, function, chart, row, 0, number, question)
                self.raises(NoOffice, kept, function, chart, row, number, -7, question)
            self.raises(NoOffice, kept, offices.knows_as_much, chart, row, number, 5)
            self.raises(NoOffice, kept, offices.knows_as_much, chart, row, 1, number)

    def test_several_numbers(self):
        for some, first in (((2,), 2), ((0, 1, 2, 3), 2), ((-2, -1, 0), -2), ((-1, 0, 7), -1),
                            ([1, 10 ** 30], 10 ** 30)):
            self.raises(NoOffice, {"number": first}, offices.are_together, self.chart, self.row, some, self.question)

    def test_no_area(self):
        for names, first in ((("c",), "c"), (("a", "ab"), "ab"), (("", "a"), ""), (("A", "a", "z"), "A"),
                             (["b", "x", "y"], "x"), (("a b",), "a b")):
            self.raises(NoArea, {"name": first}, offices.is_enough, self.chart, self.row, 1, self.question, names)
        self.raises(NoArea, {"name": "a"}, offices.is_enough, ((), ((),)), ((),), 0, ("in", ()), ("a",))

    def test_none(self):
        bare = (("a", "b"), ((),))
        self.assertIsNone(offices.office_paper(bare, self.row, 1, self.question))
        self.assertEqual(offices.fewest_signs(bare, self.row, 1, 0, self.question), 0)
        self.assertEqual(offices.a_letter(bare, self.row, 1, 0, self.question), ())
        self.assertEqual(offices.fewest_offices(bare, self.row, self.question), ())
        self.assertIsNone(offices.fewest_offices(self.chart, self.row, self.question))
        self.assertEqual(offices.most_asks(bare, self.row, 1, self.question), 0)
        self.assertIsNone(offices.fewest_signs(self.chart, self.row, 0, 1, self.question))
        self.assertIsNone(offices.a_letter(self.chart, self.row, 1, 0, self.question))


if __name__ == "__main__":
    unittest.main()
