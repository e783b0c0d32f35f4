"""is_offices, is_promise and their kind, of things of all sorts, each by one change from what is one."""

import unittest
from itertools import product

from landpoints import joins, judge, offices, rents
from tests import grounds, plain, plain_deeds, test_judge, test_joins, test_offices
from tests.test_deed_things import Looks, is_fine_history
from tests.test_things import are_fine_parcels, is_fine_cut, is_fine_name, is_fine_world, is_set_among

ALL, IN_A, IN_B, OUT = ((),), ((("a", True),),), ((("b", True),),), ((("a", False),),)
CHART, SMALL, TINY = (("a", "b"), ((("a", False), ("b", True)),)), (("a",), ()), ((), ())
ODD = (None, True, False, 0, 1, -1, 2, 10 ** 40, -10 ** 40, "", "a", "ann", "Ann", "in", "none", (), [], ((),), ("a",),
       ("b", "a"), (("a", True),), (("a", 1),), grounds.nested(12), ("vest", "ann", ((),)), ("whole", "ann", "bob", ()),
       (((),), 1), (((),), True), (("a",), 1, "ann"), ((), 1, "ann"), ((), True, "ann"), (("b",), 1, "ann"))
DEEDS = (("give", "ann", "bob", IN_A), ("vest", "cid", ALL), ("way", IN_A, ALL))
BOOK = (("give", "ann", "bob", IN_A), ("whole", "ann", "cid", ALL))


def is_fine_question(chart, thing):
    if type(thing) is not tuple or not thing or type(thing[0]) is not str:
        return False
    if thing[0] == "from":
        return len(thing) == 3 and is_fine_name(thing[1]) and is_fine_history(chart, thing[2], False)
    if len(thing) != 2 or thing[0] not in ("in", "owner"):
        return False
    return is_fine_cut(chart[0], thing[1]) if thing[0] == "in" else is_fine_history(chart, thing[1], False)


def is_fine_rent(chart, thing):
    return type(thing) is tuple and all(type(pair) is tuple and len(pair) == 2 and is_fine_cut(chart[0], pair[0])
                                        and type(pair[1]) is int for pair in thing)


def is_fine_promise(chart, thing):
    if type(thing) is not tuple or not thing or type(thing[0]) is not str:
        return False
    word, rest = thing[0], thing[1:]
    cut, history = (lambda one: is_fine_cut(chart[0], one)), (lambda one: is_fine_history(chart, one))
    deeds, rent = (lambda one: is_fine_history(chart, one, False)), (lambda one: is_fine_rent(chart, one))
    forms = {"none": (cut,), "within": (cut, cut), "parcels": (lambda one: are_fine_parcels(chart, one),),
             "has": (history, is_fine_name, cut), "owners": (history, history),
             "let": (history, lambda one: type(one) is int), "go": (deeds, cut, cut), "no way": (deeds, cut, cut),
             "ahead": (history, is_fine_name, is_fine_name, cut), "rent": (rent, rent, lambda one: type(one) is int)}
    if word not in forms or len(rest) != len(forms[word]):
        return False
    if not all(tells(one) for tells, one in zip(forms[word], rest)):
        return False
    if word == "let":
        return rest[1] in dict(enumerate(rest[0])) and rest[0][rest[1]][0] == "whole"
    return word != "ahead" or rest[1] != rest[2]


PROMISES = (("none", IN_A), ("none", ()), ("within", IN_A, ALL), ("parcels", ()),
            ("parcels", (("east", IN_A), ("west", OUT))), ("has", BOOK, "ann", IN_A), ("has", (), "zzzzzzzz", ()),
            ("owners", BOOK, DEEDS), ("owners", (), ()), ("let", BOOK, 1), ("go", DEEDS[:1], IN_A, ALL),
            ("no way", DEEDS, (), IN_A), ("ahead", (("charge", "ann", IN_A),), "ann", "bob", ALL),
            ("rent", ((IN_A, 3), (IN_A, -1)), (), -5), ("rent", (), ((ALL, 10 ** 30),), 0))


class OfOffices(Looks):
    def test_is_offices(self):
        for chart in (TINY, SMALL, CHART, (("a", "b", "c"), ALL)):
            sets = plain.subsets(chart[0])
            self.look(lambda thing: offices.is_offices(chart, thing),
                      lambda thing: type(thing) is tuple and len(thing) > 0 and all(is_set_among((*own,), chart[0])
                                                                                   for own in thing
                                                                                   if type(own) is tuple)
                      and all(type(own) is tuple for own in thing),
                      ((sets[-1],), ((), sets[-1]), (sets[-1], (), sets[0])), ODD)
        self.assertIs(offices.is_offices(SMALL, ()), False)
        self.assertIs(offices.is_offices(SMALL, (("a",), ()) * 5000), True)
        self.assertIs(offices.is_offices(SMALL, (("a",), ()) * 5000 + (["a"],)), False)

    def test_is_question(self):
        for chart in (SMALL, CHART):
            self.look(lambda thing: offices.is_question(chart, thing), lambda thing: is_fine_question(chart, thing),
                      (("in", IN_A), ("in", ()), ("owner", ()), ("owner", DEEDS), ("from", "ann", ()),
                       ("from", "zzzzzzzz", DEEDS)), ODD)
        for word in ("In", "in ", "own", "owners", "froms", "", None, 1, ("in",), ["in"]):
            for rest in ((IN_A,), ((),), ("ann", ()), (DEEDS,)):
                self.assertIs(offices.is_question(SMALL, (word, *rest)), False)
        for whole in (("owner", BOOK), ("from", "ann", BOOK), ("owner", (("whole", "ann", "bob", ()),))):
            self.assertIs(offices.is_question(SMALL, whole), False)
        self.assertIs(offices.is_question(SMALL, ("owner", DEEDS * 2000)), True)
        self.assertIs(offices.is_question(SMALL, ("owner", DEEDS * 2000 + BOOK)), False)

    def test_is_office_paper(self):
        row, question = (("a",), ()), ("in", IN_B)
        chart = (("a", "b"), ())

        def wanted(own):
            def tells(thing):
                if not is_fine_world(chart, thing) or len(thing) != 2:
                    return False
                one, other = thing[0][0], thing[1][0]
                return set(one) & own == set(other) & own and ("b" in one) != ("b" in other)
            return tells

        bases = (((("a",), 1, "ann"), (("a", "b"), 10 ** 30, "bob")), ((("b",), 1, "ann"), ((), 2, "ann")),
                 (((), 1, "ann"), (("a", "b"), 2, "ann")))
        for office, own in ((0, {"a"}), (1, set())):
            self.look(lambda thing: offices.is_office_paper(chart, row, office, question, thing), wanted(own), bases,
                      ODD + ((("a", "b"), 1, "ann"),))
        self.assertIs(offices.is_office_paper(chart, row, 0, question, bases[0] * 2000), False)

    def test_is_letter(self):
        chart, row = (("a", "b"), ((("a", False), ("b", False)),)), (("a", "b"), ("a",))
        question = ("in", IN_B)
        look = test_offices.Looked(chart, question)
        views = [("a",), ("a", "b"), ("b",)]

        def wanted(thing):
            if type(thing) is not tuple or not all(type(pair) is tuple and len(pair) == 2 for pair in thing):
                return False
            if not plain.same([pair[0] for pair in thing], views):
                return False
            if not all(type(sign) is int and sign >= 0 for _, sign in thing):
                return False
            return look.is_letter(row[0], row[1], dict(thing))

        bases = (((("a",), 0), (("a", "b"), 1), (("b",), 0)), ((("a",), 10 ** 40), (("a", "b"), 7), (("b",), 10 ** 40)))
        self.look(lambda thing: offices.is_letter(chart, row, 0, 1, question, thing), wanted, bases,
                  ODD + ((("a",), 0), (("a", "b"), 1), ("b",), ("a", "b"), 7))
        self.assertIs(offices.is_letter(chart, row, 0, 1, question, bases[0] * 3000), False)
        self.assertIs(offices.is_letter((("a", "b"), ALL), row, 0, 1, question, ()), True)
        self.assertIs(offices.is_letter((("a", "b"), ALL), row, 0, 1, question, (((), 0),)), False)


class OfJoins(Looks):
    one, other = (("give", "ann", "bob", ALL),), (("give", "ann", "cid", IN_A), ("vest", "ann", ()))

    def test_is_clash_paper(self):
        def wanted(thing):
            return is_fine_world(CHART, thing) and len(thing) == 1 and "a" in thing[0][0] and thing[0][2] == "ann"

        self.look(lambda thing: joins.is_clash_paper(CHART, (), self.one, self.other, thing), wanted,
                  (((("a",), 1, "ann"),), ((("a", "b"), 10 ** 30, "ann"),), (((), 1, "ann"),), ((("a",), 1, "bob"),)),
                  ODD + ((("a", "b"), 2, "ann"),))

    def test_is_written_join(self):
        start, one, other = (("vest", "dan", OUT),), (("give", "ann", "bob", IN_A),), (("swap", "cid", "dan", ALL),)

        def wanted(thing):
            if not is_fine_history(SMALL, thing) or not plain_deeds.words(thing) <= {"give", "vest", "swap"}:
                return False
            return test_joins.writes(SMALL, start, one, other, thing)

        self.look(lambda thing: joins.is_written_join(SMALL, start, one, other, thing), wanted,
                  (other, (("swap", "dan", "cid", ALL), ("give", "eve", "fay", ())),
                   (("vest", "cid", OUT), ("swap", "cid", "dan", IN_A))), ODD)
        for word in ("whole", "way", "end", "charge", "lift", "yield"):
            names = {"way": (), "end": (), "charge": ("x",), "lift": ("x",)}.get(word, ("x", "y"))
            more = (word, *names, (), ()) if not names else (word, *names, ())
            self.assertIs(joins.is_written_join(SMALL, start, one, other, other + (more,)), False)


class OfRents(Looks):
    def test_is_rent(self):
        for chart in (SMALL, CHART):
            self.look(lambda thing: rents.is_rent(chart, thing), lambda thing: is_fine_rent(chart, thing),
                      ((), ((IN_A, 3),), ((ALL, -10 ** 30), ((), 0), (IN_A, 7)), ((IN_A, 1), (IN_A, 1))), ODD)
        self.assertIs(rents.is_rent(SMALL, ((IN_A, 10 ** 3000), (OUT, -10 ** 3000)) * 3000), True)
        self.assertIs(rents.is_rent(SMALL, ((IN_A, 1),) * 3000 + ((IN_A, True),)), False)

    def test_is_sizes(self):
        for chart in (SMALL, CHART):
            self.look(lambda thing: rents.is_sizes(chart, thing),
                      lambda thing: is_fine_rent(chart, thing) and len(thing) < 3
                      and all(pair[1] >= 0 for pair in thing),
                      ((), ((IN_A, 3),), ((ALL, 10 ** 30), ((), 0)), ((IN_A, 1), (IN_A, 2)), ((ALL, 0),) * 3), ODD)
        self.assertIs(rents.is_sizes(SMALL, ((IN_A, 10 ** 3000),)), True)
        self.assertIs(rents.is_sizes(SMALL, ((IN_A, -1),)), False)
        self.assertIs(rents.is_sizes(SMALL, ((IN_A, 1),) * 3000), False)

    def test_papers(self):
        one, other = ((IN_A, -2), (OUT, 3)), ((OUT, -1), (IN_A, 1))
        bases = ((), (((), 1, "ann"),), ((("a",), 3, "ann"), ((), 1, "bob")), ((("a",), 10 ** 30, "ann"),),
                 ((("a",), 3, "ann"), ((), 10 ** 30, "bob")), ((("a",), 3, "ann"), ((), 4, "bob")))

        def less(number):
            return lambda thing: is_fine_world(SMALL, thing) and (test_judge.owes(one, thing) + number
                                                                  < test_judge.owes(other, thing))

        for number in (0, 5, -1, 10 ** 30):
            self.look(lambda thing: rents.is_less_paper(SMALL, one, other, number, thing), less(number), bases,
                      ODD + (((), 10 ** 40, "ann"), (("a",), 10 ** 40, "ann")))
        far = ((OUT, -2), (IN_A, 1))
        self.look(lambda thing: rents.is_neither_paper(SMALL, one, far, thing),
                  lambda thing: is_fine_world(SMALL, thing) and test_judge.owes(one, thing) < 0
                  and test_judge.owes(far, thing) < 0,
                  bases + (((("a",), 17, "ann"), ((), 10, "bob")), (((), 1, "x"), (("a",), 1, "x"), (("a",), 1, "x"))),
                  ODD + (((), 10 ** 40, "ann"),))
        crowd = ((("a",), 2, "ann"), ((), 1, "bob")) * 3000
        self.assertIs(rents.is_neither_paper(SMALL, one, far, crowd), False)
        self.assertIs(rents.is_neither_paper(SMALL, one, ((OUT, -3), (IN_A, 1)), crowd), True)
        self.assertIs(rents.is_less_paper(SMALL, one, (), 2999, crowd), True)
        self.assertIs(rents.is_less_paper(SMALL, one, (), 3000, crowd), False)


class OfJudge(Looks):
    def test_is_promise(self):
        for chart in (SMALL, CHART):
            self.look(lambda thing: judge.is_promise(chart, thing), lambda thing: is_fine_promise(chart, thing),
                      PROMISES, ODD + ("whole", "x", "bob", (("east", ()),)))

    def test_words(self):
        for word in ("None", "none ", "noway", "no  way", "no way ", "lets", "rents", "", None, 0, True, ("none",),
                     ["go"]):
            for promise in PROMISES:
                self.assertIs(judge.is_promise(SMALL, (word, *promise[1:])), False)
        for promise, other in product(PROMISES, PROMISES):
            thing = (promise[0], *other[1:])
            self.assertIs(judge.is_promise(SMALL, thing), is_fine_promise(SMALL, thing), thing)

    def test_whole_where_it_is_let_and_where_not(self):
        for promise, wanted in ((("has", BOOK, "ann", ALL), True), (("owners", BOOK, BOOK), True),
                                (("let", BOOK, 1), True), (("let", BOOK, 0), False),
                                (("ahead", BOOK, "a", "b", ()), True), (("go", BOOK, (), ()), False),
                                (("no way", BOOK, (), ()), False),
                                (("let", BOOK, 2), False), (("let", BOOK, -1), False), (("let", BOOK, True), False),
                                (("let", BOOK, 10 ** 30), False), (("let", (), 0), False)):
            self.assertIs(judge.is_promise(SMALL, promise), wanted, promise)

    def test_unlike_names(self):
        self.assertIs(judge.is_promise(SMALL, ("ahead", (), "x", "y", ())), True)
        self.assertIs(judge.is_promise(SMALL, ("ahead", (), "x", "x", ())), False)

    def test_very_many(self):
        names = sorted("".join(letters) for letters in product("abcdefghij", repeat=3))
        parcels = tuple((name, IN_A) for name in names)
        self.assertIs(judge.is_promise(SMALL, ("parcels", parcels)), True)
        self.assertIs(judge.is_promise(SMALL, ("parcels", parcels[::-1])), False)
        self.assertIs(judge.is_promise(SMALL, ("owners", BOOK * 2000, DEEDS * 2000)), True)
        self.assertIs(judge.is_promise(SMALL, ("let", BOOK * 2000, 3999)), True)
        self.assertIs(judge.is_promise(SMALL, ("let", BOOK * 2000, 3998)), False)
        self.assertIs(judge.is_promise(SMALL, ("rent", ((ALL, 10 ** 3000),) * 2000, (), -10 ** 3000)), True)
        deep = grounds.nested(10)
        for word in test_judge.KINDS:
            for thing in ((word, deep), (word, deep, deep), (word, deep, deep, deep), (word, (), deep, ()),
                          (word, (deep,), ()), (word, deep, "a", "b", ())):
                self.assertIs(judge.is_promise(SMALL, thing), word in ("none", "parcels") and thing[1:] == ((),))

    def test_is_paper(self):
        bases = ((), (((), 1, "ann"),), ((("a",), 1, "ann"), ((), 5, "bob")), ((("a",), 3, "cid"),),
                 ((("a",), 10 ** 30, "dan"), ((), 1, "ann"), (("a",), 1, "ann")))
        for promise in PROMISES:
            if promise in (("none", ()), ("within", IN_A, ALL), ("owners", (), ()), ("has", (), "zzzzzzzz", ()),
                           ("no way", DEEDS, (), IN_A), ("parcels", (("east", IN_A), ("west", OUT))),
                           ("ahead", (("charge", "ann", IN_A),), "ann", "bob", ALL)):
                for thing in bases + ODD:
                    self.assertIs(judge.is_paper(SMALL, promise, thing), False)
                continue
            self.look(lambda thing: judge.is_paper(SMALL, promise, thing),
                      lambda thing: is_fine_world(SMALL, thing) and test_judge.is_paper(promise, thing), bases,
                      ODD + (((), 10 ** 40, "cid"),))


if __name__ == "__main__":
    unittest.main()
