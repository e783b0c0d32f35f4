"""The Board beside a plain one of the tests' own: rows of deeds, some refused, some taken back."""

import inspect
import unittest
from copy import deepcopy
from random import Random

from landpoints import errors
from landpoints.board import Board
from tests import grounds, histories, plain, plain_deeds
from tests.plain_board import PlainBoard

WORDS = ("give", "give", "vest", "swap", "way", "way", "end", "charge", "charge", "lift", "yield")
NAMES = ("a", "zed")
DEEDS = ("area", "survey", "doubt", "write", "strike", "exchange", "point", "leave", "keep", "drop", "undo")
METHODS = {"area": ["name"], "survey": ["condition"], "doubt": ["condition"], "write": ["deed"], "strike": ["place"],
           "exchange": ["place"], "point": ["spot", "size", "first"], "leave": ["place"], "keep": ["name", "cut"],
           "drop": ["name"], "undo": [], "twin": [], "chart": [], "history": [], "world": [], "kept": [],
           "owners": [], "ways": [], "charges": ["place"], "size": ["name"], "inside": ["name"],
           "one_owner": ["name"], "surely": ["name"], "changed": [], "idle": []}
NONE, IN_A, ALL = (), ((("a", True),),), ((),)


def outcome(board, name, *values):
    """What comes of the call: its result, or the class and the values of its error."""
    try:
        return "result", getattr(board, name)(*values)
    except (LookupError, ValueError) as error:
        assert type(error) is getattr(errors, type(error).__name__)
        return type(error).__name__, vars(error)


def all_told(board):
    """All that a Board tells, but what hangs on names and places."""
    return [outcome(board, name) for name in ("chart", "history", "world", "kept", "owners", "ways", "changed", "idle")]


def some_deed(chosen, board):
    """A deed of the Board, as its name and its values; about one of four is refused."""
    (areas, bare), history, world = board.chart(), board.history(), board.world()
    cuts = grounds.some_cuts(areas, 4, 2) + [ALL, ALL]
    conditions = plain.all_conditions(areas)
    often = ("write",) * 6 + ("point",) * 5 + ("exchange", "strike", "leave", "undo", "undo", "drop")
    name = chosen.choice(DEEDS + often)
    if name in ("area", "survey") and len(areas) < 3 or name == "undo":
        values = {"area": (chosen.choice("abcd"),), "survey": (chosen.choice(conditions),), "undo": ()}[name]
    elif name in ("area", "survey"):
        values = (chosen.choice(areas),) if name == "area" else (chosen.choice(conditions),)
    elif name == "doubt":
        values = (chosen.choice(bare + conditions[:1] + conditions[-1:]),)
    elif name == "write":
        whole = ("whole", "whole") if sum(deed[0] == "whole" for deed in history) < 4 else ()
        values = (histories.some_deed(chosen, chosen.choice(WORDS + whole), cuts, ("ann", "bob", "cid")),)
        if len(history) > 8:
            name, values = "strike", (chosen.randrange(len(history)),)
    elif name in ("strike", "exchange"):
        values = (chosen.randint(-1, len(history)),)
    elif name == "point":
        spots = list(plain.let(board.chart())) * 3 + [("b", "d"), ("zed",), ("a", "b")]
        values = (chosen.choice(spots), chosen.choice((1, 2, 7, 10 ** 30, 0, -1)), chosen.choice(("ann", "bob", "xan")))
        if len(world) > 4:
            name, values = "leave", (chosen.randrange(len(world)),)
    elif name == "leave":
        values = (chosen.randint(-1, len(world)),)
    else:
        values = (chosen.choice(NAMES), chosen.choice(cuts))[:2 if name == "keep" else 1]
    return name, values


class Beside(unittest.TestCase):
    def look(self, board, other):
        """Compares all that both tell."""
        for name in ("chart", "history", "world", "kept", "owners", "ways", "changed", "idle"):
            self.assertTrue(plain.same(getattr(board, name)(), getattr(other, name)()), name)
        self.assertEqual(len(board), len(other.past))
        for name in NAMES + ("b", "", "Zed"):
            for method in ("inside", "one_owner", "surely"):
                self.assertEqual(outcome(board, method, name), outcome(other, method, name))
        for name in ("ann", "bob", "cid", "xan", "nobody", ""):
            self.assertEqual(board.size(name), other.size(name))
        for place in range(-2, len(other.world()) + 2):
            self.assertEqual(outcome(board, "charges", place), outcome(other, "charges", place))

    def test_rows_of_deeds(self):
        chosen = Random("rows")
        seen = {}
        for _ in range(120):
            areas = grounds.areas_of(chosen.randint(0, 2))
            board, other = Board(areas), PlainBoard(areas)
            self.look(board, other)
            for _ in range(chosen.randint(10, 40)):
                name, values = some_deed(chosen, other)
                ahead, told = other.all(), all_told(board)
                wanted = outcome(other, name, *values)
                self.assertEqual(outcome(board, name, *values), wanted, (name, values))
                if wanted != ("result", None):
                    # What is refused changes nothing.
                    self.assertEqual((other.all(), all_told(board)), (ahead, told))
                self.look(board, other)
                seen[name, wanted[0]] = seen.get((name, wanted[0]), 0) + 1
        for name, error in (("area", "Known"), ("survey", "Unfit"), ("doubt", "CanNot"), ("strike", "NoDeed"),
                            ("exchange", "NoDeed"), ("point", "Unfit"), ("leave", "NoPoint"), ("keep", "Known"),
                            ("drop", "CanNot"), ("undo", "NothingDone")):
            self.assertGreater(seen.get((name, error), 0), 4, (name, error))
        for name in DEEDS:
            self.assertGreater(seen.get((name, "result"), 0), 15, name)

    def test_taken_back_down_to_nothing(self):
        chosen = Random("nothing")
        for _ in range(40):
            areas = grounds.areas_of(chosen.randint(0, 2))
            board, states = Board(areas), []
            while len(states) < 25:
                name, values = some_deed(chosen, board)
                told = board.twin(), all_told(board)
                if name != "undo" and outcome(board, name, *values) == ("result", None):
                    states.append(told)
            while states:
                self.assertEqual(len(board), len(states))
                self.assertIsNone(board.undo())
                mate, told = states.pop()
                self.assertTrue(board == mate)
                self.assertEqual(all_told(board), told)
            with self.assertRaises(errors.NothingDone) as caught:
                board.undo()
            self.assertEqual((type(caught.exception), vars(caught.exception)), (errors.NothingDone, {}))
            self.assertTrue(board == Board(areas))
            self.assertEqual(len(board), 0)

    def test_twins_go_their_own_ways(self):
        chosen = Random("twins")
        for _ in range(40):
            board, other = Board(("a",)), PlainBoard(("a",))
            for _ in range(20):
                name, values = some_deed(chosen, other)
                self.assertEqual(outcome(board, name, *values), outcome(other, name, *values))
            pairs = [(board, other), (board.twin(), deepcopy(other))]
            self.assertTrue(pairs[0][0] == pairs[1][0])
            self.assertIsNot(pairs[0][0], pairs[1][0])
            for _ in range(15):
                one, plain_one = pairs[chosen.randint(0, 1)]
                name, values = some_deed(chosen, plain_one)
                self.assertEqual(outcome(one, name, *values), outcome(plain_one, name, *values))
                for one, plain_one in pairs:
                    self.look(one, plain_one)
                same = pairs[0][1].all() == pairs[1][1].all()
                self.assertIs(pairs[0][0] == pairs[1][0], same)
                self.assertIs(pairs[0][0] != pairs[1][0], not same)


class Equal(unittest.TestCase):
    def test_made_alike_by_other_ways(self):
        board, other = Board(("a",)), Board(("a", "b"))
        board.area("b")
        self.assertTrue(board == other and not board != other)
        self.assertNotEqual(len(board), len(other))
        steps = ((lambda one: one.point(("a",), 5, "ann"), lambda one: one.point(["a"], 5, "ann")),
                 (lambda one: one.keep("k", ALL), lambda one: (one.keep("b", ()), one.keep("k", ALL), one.drop("b"))),
                 (lambda one: one.survey((("b", True),)),
                  lambda one: (one.survey((("b", True),)), one.survey((("b", True),)))),
                 (lambda one: (one.write(("vest", "ann", ALL)), one.write(("give", "ann", "bob", ALL))),
                  lambda one: (one.write(["give", "ann", "bob", [[]]]), one.write(("vest", "ann", ALL)),
                               one.exchange(0))),
                 (lambda one: one.area("c"), lambda one: (one.area("d"), one.undo(), one.area("c"))))
        for near, far in steps:
            near(board)
            self.assertTrue(board != other and not board == other)
            far(other)
            self.assertTrue(board == other and not board != other)
            self.assertEqual(all_told(board)[:-2], all_told(other)[:-2])

    def test_each_part_tells(self):
        base = Board(("a", "b"))
        for change in (lambda one: one.area("c"), lambda one: one.survey((("a", True),)),
                       lambda one: one.write(("vest", "ann", ())), lambda one: one.point((), 1, "ann"),
                       lambda one: one.keep("k", ())):
            one, other = base.twin(), base.twin()
            change(one)
            self.assertTrue(one != other and not one == other)
            change(other)
            self.assertTrue(one == other and not one != other)
        one, other = base.twin(), base.twin()
        one.point((), 1, "ann")
        other.point((), 2, "ann")
        self.assertFalse(one == other)

    def test_nothing_else(self):
        board = Board(("a",))

        class Anything:
            def __eq__(self, other):
                return NotImplemented

        for thing in (None, True, False, 0, 1, "", "a", (), [], (("a",), ()), ((("a",), ()), (), (), ()), Board,
                      PlainBoard(("a",)), Anything(), object()):
            self.assertIs(board == thing, False)
            self.assertIs(board != thing, True)
            self.assertIs(thing == board, False)
            self.assertIs(thing != board, True)
        self.assertIs(board == Board(("a",)), True)
        self.assertIs(board != Board(("a",)), False)

    def test_no_iteration(self):
        board = Board(("a",))
        board.point((), 1, "ann")
        for call in (lambda: iter(board), lambda: list(board), lambda: tuple(board), lambda: [one for one in board],
                     lambda: sorted(board), lambda: "a" in board, lambda: dict(board), lambda: [*board]):
            with self.assertRaises(TypeError):
                call()


class Copies(unittest.TestCase):
    def test_what_is_handed_in_is_copied(self):
        areas, condition, deed = ["a", "b"], [["b", True]], ["way", [[["a", True]]], [[]]]
        spot, cut = ["a"], [[["a", True]]]
        board = Board(areas)
        board.survey(condition)
        board.write(deed)
        board.point(spot, 3, "ann")
        board.keep("k", cut)
        wanted = ((("a", "b"), ((("b", True),),)), (("way", IN_A, ALL),), ((("a",), 3, "ann"),), (("k", IN_A),))
        for _ in range(2):
            told = board.chart(), board.history(), board.world(), board.kept()
            self.assertTrue(plain.same(told, wanted))
            for given in (areas, condition, deed, spot, cut):
                given.reverse()
                given.append("more")
            for part in deed + cut:
                if isinstance(part, list):
                    part.append(7)
        board.doubt([["b", True]])
        self.assertEqual(board.chart(), (("a", "b"), ()))
        self.assertEqual(board.owners(), ("ann",))

    def test_arguments_are_not_changed(self):
        board = Board(["b"])
        for name, values in (("area", ("a",)), ("survey", ([["b", True]],)), ("doubt", ([["b", True]],)),
                             ("write", (["give", "ann", "bob", [[["a", True]]]],)), ("point", (["a"], 1, "ann")),
                             ("keep", ("k", [[["a", False], ["b", True]], [["b", False]]]))):
            kept = deepcopy(values)
            self.assertEqual(outcome(board, name, *values), ("result", None))
            self.assertTrue(plain.same(values, kept))

    def test_by_names(self):
        board = Board(areas=("a",))
        told = (("area", {"name": "b"}), ("survey", {"condition": (("b", True),)}),
                ("doubt", {"condition": (("b", True),)}), ("write", {"deed": ("vest", "ann", ALL)}),
                ("write", {"deed": ("charge", "debt", ALL)}), ("exchange", {"place": 0}), ("strike", {"place": 1}),
                ("point", {"first": "bob", "size": 2, "spot": ("a",)}),
                ("point", {"spot": (), "size": 1, "first": "bob"}),
                ("leave", {"place": 1}), ("keep", {"cut": ALL, "name": "k"}), ("keep", {"name": "l", "cut": ()}),
                ("drop", {"name": "l"}))
        for name, given in told:
            self.assertIsNone(getattr(board, name)(**given))
        self.assertEqual((board.charges(place=0), board.size(name="bob"), board.inside(name="k")),
                         (("debt",), 2, (0,)))
        self.assertEqual((board.one_owner(name="k"), board.surely(name="k")), ("bob", None))

    def test_the_same_call_again(self):
        chosen = Random("again")
        board = Board(("a", "b"))
        for _ in range(30):
            name, values = some_deed(chosen, board)
            outcome(board, name, *values)
            self.assertEqual(all_told(board), all_told(board))

    def test_methods(self):
        for name, wanted in METHODS.items():
            self.assertIn(name, vars(Board))
            parameters = list(inspect.signature(getattr(Board, name)).parameters.values())
            self.assertEqual([one.name for one in parameters], ["self"] + wanted)
            self.assertEqual({one.default for one in parameters}, {inspect.Parameter.empty})
        self.assertEqual([one for one in inspect.signature(Board).parameters], ["areas"])
        self.assertIn("__len__", vars(Board))
        self.assertIn("__eq__", vars(Board))
        self.assertEqual(Board.__bases__, (object,))
        self.assertEqual(Board.__module__, "landpoints.board")


class Refused(unittest.TestCase):
    def refused(self, board, error, kept, name, *values):
        ahead, many = all_told(board), len(board)
        with self.subTest(name=name, values=values):
            with self.assertRaises(error) as caught:
                getattr(board, name)(*values)
            self.assertEqual((type(caught.exception), vars(caught.exception)), (error, kept))
        self.assertEqual((all_told(board), len(board)), (ahead, many))

    def board(self):
        board = Board(("a", "b"))
        board.survey((("a", True), ("b", True)))
        for deed in (("vest", "ann", IN_A), ("give", "ann", "bob", ALL), ("charge", "debt", ALL)):
            board.write(deed)
        board.point(("a",), 4, "cid")
        board.point((), 10 ** 30, "cid")
        board.keep("k", IN_A)
        return board

    def test_places(self):
        board = self.board()
        for place in (3, 4, -1, -3, 10 ** 30, -10 ** 30):
            self.refused(board, errors.NoDeed, {"place": place}, "strike", place)
            self.refused(board, errors.NoDeed, {"place": place}, "exchange", place)
        self.refused(board, errors.NoDeed, {"place": 3}, "exchange", 2)
        for place in (2, 3, -1, -2, 10 ** 30, -10 ** 30):
            self.refused(board, errors.NoPoint, {"place": place}, "leave", place)
            self.refused(board, errors.NoPoint, {"place": place}, "charges", place)
        new = Board(())
        for name in ("strike", "exchange"):
            for place in (0, -1):
                self.refused(new, errors.NoDeed, {"place": place}, name, place)
        for name in ("leave", "charges"):
            self.refused(new, errors.NoPoint, {"place": 0}, name, 0)
        self.refused(new, errors.NothingDone, {}, "undo")

    def test_names(self):
        board = self.board()
        for name in ("a", "b"):
            self.refused(board, errors.Known, {"name": name}, "area", name)
        self.refused(board, errors.Known, {"name": "k"}, "keep", "k", ALL)
        self.refused(board, errors.Known, {"name": "k"}, "keep", "k", IN_A)
        for name in ("a", "", "K", "kk", "k ", "abcdefghi"):
            for method in ("drop", "inside", "one_owner", "surely"):
                self.refused(board, errors.CanNot, {}, method, name)
            self.assertEqual(board.size(name), 0)

    def test_surveys_and_points(self):
        board = self.board()
        for condition in ((), (("a", True),), (("a", False),), (("b", False),), (("a", True), ("b", False))):
            self.refused(board, errors.Unfit, {}, "survey", condition)
        for condition in ((), (("a", True),), (("a", True), ("b", False))):
            self.refused(board, errors.CanNot, {}, "doubt", condition)
        for spot, size in ((("a", "b"), 1), (("c",), 1), (("abcdefgh",), 5), (("a",), 0), (("a",), -1),
                           ((), -10 ** 30), (("a", "b"), 0), (("c",), -1)):
            self.refused(board, errors.Unfit, {}, "point", spot, size, "ann")
        self.assertIsNone(board.survey((("b", True),)))
        self.refused(board, errors.Unfit, {}, "point", ("b",), 1, "ann")

    def test_surely(self):
        """CanNot ahead of Unfit."""
        board = self.board()
        self.assertEqual(board.surely("k"), "bob")
        board.keep("all", ALL)
        self.assertIsNone(board.surely("all"))
        board.keep("none", ((("a", True), ("b", True)),))
        self.assertIsNone(board.surely("none"))
        board.write(("whole", "zed", "ann", ()))
        for name in ("k", "all", "none"):
            self.refused(board, errors.Unfit, {}, "surely", name)
        self.refused(board, errors.CanNot, {}, "surely", "kk")
        board.strike(3)
        self.assertEqual(board.surely("k"), "bob")

    def test_a_deed_that_changes_nothing(self):
        """It is one all the same, and can be taken back."""
        board = Board(("a",))
        board.survey((("a", True),))
        board.survey((("a", True),))
        self.assertEqual((len(board), board.chart()), (2, (("a",), ((("a", True),),))))
        board.undo()
        self.assertEqual(board.chart(), (("a",), ((("a", True),),)))
        board.doubt((("a", True),))
        for deed in (("vest", "ann", ()), ("vest", "ann", ())):
            board.write(deed)
        board.exchange(0)
        self.assertEqual(len(board), 5)


class Told(unittest.TestCase):
    def test_whole_deeds_among_the_others(self):
        """A point in a that is not ann's stops the "whole"; when it leaves the other one turns, and has no way."""
        board = Board(("a",))
        board.write(("way", IN_A, ALL))
        board.write(("whole", "ann", "bob", ALL))
        for spot, first in ((("a",), "ann"), ((), "bob"), (("a",), "cid")):
            board.point(spot, 1, first)
        self.assertEqual(board.owners(), ("ann", "bob", "cid"))
        self.assertEqual(board.ways(), ((0, 1), (0, 2), (2, 0), (2, 1)))
        self.assertEqual(board.idle(), (1,))
        board.leave(1)
        self.assertEqual(board.changed(), ())
        board.leave(1)
        self.assertEqual((board.owners(), board.ways(), board.changed(), board.idle()), (("bob",), (), (0,), (0,)))
        board.point((), 5, "ann")
        self.assertEqual((board.owners(), board.changed()), (("bob", "bob"), ()))
        board.point((), 5, "cid")
        self.assertEqual((board.owners(), board.changed()), (("ann", "ann", "cid"), (0, 1)))
        board.undo()
        self.assertEqual((board.owners(), board.changed()), (("bob", "bob"), ()))

    def test_places_as_they_are_now(self):
        """Behind the place of the POINT that left all stand one place ahead."""
        board = Board(("a",))
        board.write(("whole", "ann", "bob", ALL))
        for first in ("ann", "ann", "zed", "ann"):
            board.point((), 1, first)
        self.assertEqual(board.changed(), ())
        board.leave(2)
        self.assertEqual((board.owners(), board.changed()), (("bob",) * 3, (0, 1, 2)))
        board.leave(0)
        self.assertEqual(board.changed(), ())
        board.undo()
        self.assertEqual(board.changed(), (0, 1, 2))
        board.strike(0)
        self.assertEqual(board.changed(), (0, 1, 2))
        board.write(("give", "ann", "cid", ALL))
        self.assertEqual(board.changed(), (0, 1, 2))
        board.keep("k", ALL)
        self.assertEqual(board.changed(), ())
        board.undo()
        self.assertEqual(board.changed(), (0, 1, 2))

    def test_charges_that_stand_already(self):
        board = Board(("a",))
        board.point(("a",), 1, "ann")
        for deed in (("charge", "debt", ALL), ("charge", "rent", ALL), ("charge", "debt", IN_A)):
            board.write(deed)
        self.assertEqual((board.charges(0), board.idle()), (("debt", "rent"), (2,)))
        board.write(("yield", "debt", "rent", IN_A))
        self.assertEqual((board.charges(0), board.changed()), (("rent", "debt"), ()))
        board.write(("lift", "rent", IN_A))
        self.assertEqual(board.charges(0), ("debt",))

    def test_undo_of_an_area(self):
        board = Board(())
        board.area("a")
        board.point((), 1, "ann")
        board.undo()
        board.undo()
        self.assertEqual((board.chart(), board.world()), (((), ()), ()))
        board.point((), 2, "bob")
        board.area("a")
        self.assertEqual((board.chart(), board.world()), ((("a",), ()), (((), 2, "bob"),)))
        board.survey((("a", True),))
        board.undo()
        self.assertIsNone(board.point(("a",), 1, "ann"))
        board.leave(0)
        board.undo()
        self.assertEqual(board.world(), (((), 2, "bob"), (("a",), 1, "ann")))

    def test_no_points(self):
        board = Board(("a",))
        board.keep("all", ALL)
        for deed in (("vest", "ann", ALL), ("way", ALL, ALL), ("charge", "debt", ALL), ("whole", "ann", "bob", ALL)):
            board.write(deed)
        self.assertEqual((board.owners(), board.ways(), board.size("ann"), board.inside("all"), board.idle()),
                         ((), (), 0, (), (0, 1, 2, 3)))
        self.assertIsNone(board.one_owner("all"))
        self.assertEqual(board.changed(), ())

    def test_sizes(self):
        board = Board(("a",))
        for size in (10 ** 30, 10 ** 30, 1):
            board.point((), size, "ann")
        board.point(("a",), 7, "bob")
        self.assertEqual((board.size("ann"), board.size("bob"), board.size("cid")), (2 * 10 ** 30 + 1, 7, 0))

    def test_words(self):
        """Each word of the table does on the Board what it does behind a HISTORY."""
        chosen = Random("words")
        for word in histories.ALL_WORDS + ("whole",):
            for _ in range(10):
                board = Board(("a", "b"))
                row = [histories.some_deed(chosen, one, histories.cuts_for(("a", "b")), ("ann", "bob"))
                       for one in ("vest", "way", "charge", "charge", word)]
                world = histories.some_world(chosen, (("a", "b"), ()), ("ann", "bob"), 5)
                for deed in row:
                    board.write(deed)
                for point in world:
                    board.point(*point)
                state = plain_deeds.end(row, world)
                self.assertEqual((board.owners(), board.ways()), (state.owners, tuple(sorted(state.ways))))
                self.assertEqual(tuple(board.charges(place) for place in range(len(world))), state.rows)


if __name__ == "__main__":
    unittest.main()
