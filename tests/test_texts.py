"""Texts beside a plain writer and a plain reader, and bent at each place."""

import unittest
from random import Random

from landpoints import texts
from landpoints.errors import BadLine, BadText
from tests import grounds, histories, plain, plain_texts

LONG = (("abcdefgh", "b", "zzzzzzzz"), ())
WORDS = histories.ALL_WORDS + ("whole", "whole", "end", "lift")
ODD_TEXTS = ("", " ", "-", "--", "- -", "*", "**", "* *", "*+a", "a+*", "/", " / ", "-/-", "- / - / -", " /  / ", "+",
             "a+", "+a", "a b", "b a", "a a", "a  b", " a", "a ", "a+b+a", "b+a", "-a+a", "a+-a", "--a", "- a",
             "abcdefgh",
             "abcdefghi", "A", "a\n", "\n", "\n\n", "a/b", "a /b", "a / b", "a / b / a", "1", "a 1 ann", "* 1 ann",
             "* 01 ann", "* 0 ann", "* 1  ann", "* 1 ann ", " * 1 ann", "* -1 ann", "* +1 ann", "* 1_0 ann",
             "* 1.0 ann", "* 1 Ann", "* 1 abcdefghi", "* 1", "1 ann", "* 1 ann / ", " / * 1 ann", "* 1 ann /* 1 ann",
             "* 1 ann / / * 1 ann", "* 1 ann /  / * 1 ann", "a\tb", "a\rb", "a\x0bb", "a\x0cb", "a\x1cb", chr(228),
             "a" + chr(0xa0) + "b", "a" + chr(0x2028) + "b", "* " + chr(0x661) + " ann", "* " + chr(0xb2) + " ann",
             "* 1 " + chr(0xaa), chr(0xff41))


def charts():
    return [((), ()), ((), ((),)), (("a",), ()), (("a",), ((),)), (("a", "b"), ((("a", True), ("b", False)),)),
            (("a", "b"), ()), LONG]


class Texts(unittest.TestCase):
    def bad(self, error, number, function, *values):
        with self.assertRaises(error) as caught:
            function(*values)
        kept = {"number": number} if error is BadLine else {"piece": number}
        self.assertEqual((type(caught.exception), vars(caught.exception)), (error, kept), values)

    def look(self, text, wrong, function, writer, *values):
        """An error exactly if nothing has just this text; what is read is told by writing it again."""
        error = BadLine if function is texts.read_history else BadText
        if wrong is not None:
            self.bad(error, wrong, function, *values, text)
            return
        told = function(*values, text)
        self.assertIsInstance(told, tuple)
        self.assertEqual(plain_texts.written(told, writer), text)

    def look_all(self, chart, text):
        self.look(text, plain_texts.wrong_in_map(text), texts.read_map, "map")
        self.look(text, plain_texts.wrong_in_cut(chart, text), texts.read_cut, "cut", chart)
        self.look(text, plain_texts.wrong_in_land(chart, text), texts.read_land, "land", chart)
        self.look(text, plain_texts.wrong_in_world(chart, text), texts.read_world, "world", chart)
        self.look(text, plain_texts.wrong_line(chart, text), texts.read_history, "history", chart)


class Again(Texts):
    """Each text read again is the same."""

    def test_maps_cuts_and_lands(self):
        for chart in grounds.maps(3, 8) + grounds.great_maps() + charts():
            told = plain_texts.written(chart, "map")
            self.assertEqual(texts.map_text(chart), told)
            self.assertTrue(plain.same(texts.read_map(told), chart))
            for cut in grounds.some_cuts(chart[0], 8, 4):
                told = plain_texts.written(cut, "cut")
                self.assertEqual(texts.cut_text(cut), told)
                self.assertTrue(plain.same(texts.read_cut(chart, told), cut))
            for land in grounds.lands(chart, 6):
                told = plain_texts.written(land, "land")
                self.assertEqual(texts.land_text(land), told)
                self.assertTrue(plain.same(texts.read_land(chart, told), land))

    def test_all_conditions(self):
        areas = grounds.areas_of(5)
        cut = plain.all_conditions(areas)
        self.assertEqual(texts.read_cut((areas, ()), texts.cut_text(cut)), cut)
        self.assertEqual(texts.read_map(texts.map_text((areas, cut))), (areas, cut))
        spots = plain.subsets(areas)
        self.assertEqual(texts.read_land((areas, ()), texts.land_text(spots)), spots)

    def test_histories_and_worlds(self):
        chosen = Random("again")
        seen = set()
        for _ in range(300):
            chart = chosen.choice(charts() + grounds.maps(2, 4))
            history = histories.some_history(chosen, chart[0], 12, WORDS)
            told = plain_texts.written(history, "history")
            self.assertEqual(texts.history_text(history), told)
            self.assertTrue(plain.same(texts.read_history(chart, told), history))
            seen |= {deed[0] for deed in history}
            world = histories.some_world(chosen, chart, ("a", "ann", "zzzzzzzz"), 6)
            world = tuple((spot, chosen.choice((size, 10, 10 ** 30, 10 ** 300)), first) for spot, size, first in world)
            told = plain_texts.written(world, "world")
            self.assertEqual(texts.world_text(world), told)
            self.assertTrue(plain.same(texts.read_world(chart, told), world))
        self.assertEqual(seen, set(plain_texts.FORMS))

    def test_nothing(self):
        self.assertEqual((texts.cut_text(()), texts.cut_text(((),)), texts.land_text(()), texts.land_text(((),)),
                          texts.world_text(()), texts.history_text(()), texts.map_text(((), ()))),
                         ("-", "*", "-", "*", "-", "", "- / -"))
        chart = ((), ())
        self.assertEqual((texts.read_cut(chart, "-"), texts.read_cut(chart, "*"), texts.read_land(chart, "-"),
                          texts.read_land(chart, "*"), texts.read_world(chart, "-"), texts.read_history(chart, ""),
                          texts.read_map("- / -"), texts.read_map("- / *")),
                         ((), ((),), (), ((),), (), (), ((), ()), ((), ((),))))

    def test_very_many(self):
        world = ((("a",), 5, "ann"), ((), 10 ** 40, "bob")) * 2000
        self.assertEqual(texts.read_world((("a",), ()), texts.world_text(world)), world)
        history = (("give", "ann", "bob", ((),)), ("way", (), ((),))) * 1000
        self.assertEqual(texts.read_history(((), ()), texts.history_text(history)), history)
        self.bad(BadLine, 2000, texts.read_history, ((), ()), texts.history_text(history) + "\n")
        self.bad(BadText, 4000, texts.read_world, (("a",), ()), texts.world_text(world) + " / a 1 ann ")


class Bent(Texts):
    def test_maps(self):
        for chart in grounds.maps(2, 4) + [LONG]:
            for text in plain_texts.bent(plain_texts.written(chart, "map")):
                self.look(text, plain_texts.wrong_in_map(text), texts.read_map, "map")

    def test_cuts_and_lands(self):
        for chart in charts():
            for cut in grounds.some_cuts(chart[0], 3, 3):
                for text in plain_texts.bent(plain_texts.written(cut, "cut"), "ab+-* /\n"):
                    self.look(text, plain_texts.wrong_in_cut(chart, text), texts.read_cut, "cut", chart)
            for land in grounds.lands(chart, 3)[:6]:
                for text in plain_texts.bent(plain_texts.written(land, "land"), "ab+-* /\n"):
                    self.look(text, plain_texts.wrong_in_land(chart, text), texts.read_land, "land", chart)

    def test_worlds(self):
        chosen = Random("bent worlds")
        for chart in charts():
            for many in range(4):
                world = histories.some_world(chosen, chart, ("ann", "b"), many)
                for text in plain_texts.bent(plain_texts.written(world, "world"), "ab+* /\n01"):
                    self.look(text, plain_texts.wrong_in_world(chart, text), texts.read_world, "world", chart)

    def test_histories(self):
        chosen = Random("bent histories")
        for chart in charts():
            for _ in range(4):
                history = histories.some_history(chosen, chart[0], 3, WORDS, ("ann", "b"), ("a", "debt"))
                for text in plain_texts.bent(plain_texts.written(history, "history"), "ab+-* /\n"):
                    self.look(text, plain_texts.wrong_line(chart, text), texts.read_history, "history", chart)

    def test_words_of_deeds(self):
        chart = (("a",), ())
        for word in plain_texts.FORMS:
            for rest in ("", " / a", " / ann / a", " / ann / bob / a", " / a / a", " / * / -", " / ann / ann / *",
                         " / ann / bob / a / a", " / ann / bob / ", " / ann /  / *", " / * / * / *"):
                for text in (word + rest, word.upper() + rest, word + "s" + rest, " " + word + rest, word + " " + rest):
                    self.look(text, plain_texts.wrong_line(chart, text), texts.read_history, "history", chart)

    def test_odd_texts(self):
        for chart in charts():
            for text in ODD_TEXTS:
                self.look_all(chart, text)
                for more in ("a / " + text, text + " / a", "a " + text, "* 1 ann / " + text, "vest / ann / " + text,
                             "vest / ann / *\n" + text, text + "\nvest / ann / *"):
                    self.look_all(chart, more)


class Pieces(Texts):
    """Which piece is told."""

    chart = (("a", "b"), ((("a", True), ("b", False)),))

    def test_too_few_and_too_many(self):
        for text, piece in (("a", 1), ("-", 1), ("a b", 1), ("", 0), ("b a", 0), ("- / - / -", 2), ("a / - / - / -", 2),
                            ("b a / - / -", 0), ("a / b / -", 1), ("a / - / ", 2), ("a / ", 1), (" / -", 0),
                            ("a /-", 0)):
            self.bad(BadText, piece, texts.read_map, text)

    def test_words(self):
        for text, piece in (("", 0), (" ", 0), ("- ", 0), (" -", 0), ("a  b", 1), ("a ", 1), ("a -", 1), ("- a", 0),
                            ("a b a", 2), ("b a", 1), ("-b -a", 1), ("a a", 1), ("a+b a", 1), ("a -a", 1), ("a b c", 2),
                            ("c a", 0), ("* -a -a+-b -a+b a ", 5)):
            self.bad(BadText, piece, texts.read_cut, self.chart, text)
        self.assertEqual(texts.read_cut(self.chart, "-a -a+-b a")[0], (("a", False),))
        for text, piece in (("a", 0), ("* a", 1), ("* a+b b *", 3), ("b a+b", 1), ("* -b", 1), ("* b+a", 1), ("- *", 0),
                            ("a+b b ", 2), ("*  b", 1)):
            self.bad(BadText, piece, texts.read_land, self.chart, text)
        self.assertEqual(texts.read_land(self.chart, "* a+b b"), ((), ("a", "b"), ("b",)))

    def test_points(self):
        for text, piece in (("", 0), ("* 1 ann / ", 1), ("* 1 ann / -", 1), ("- / * 1 ann", 0),
                            ("* 1 ann / a 1 ann", 1), ("* 1 ann / b 2 bob / a+b 00 x", 2),
                            ("* 1 ann / * 0 ann / * x ann", 1), ("* 1 ann bob", 0),
                            ("* 1 ann  / * 1 ann", 0), ("* 1 ann /  * 1 ann", 1), ("* ann 1", 0)):
            self.bad(BadText, piece, texts.read_world, self.chart, text)

    def test_lines(self):
        fine = "vest / ann / *"
        for text, number in (("\n", 0), (fine + "\n", 1), ("\n" + fine, 0), (fine + "\n\n" + fine, 1), ("-", 0),
                             (fine + "\n" + fine + "\nvest / ann / c", 2), (fine + "\r\n" + fine, 0),
                             (fine + "\ngive / ann / ann / *\n\n", 1), (fine + " ", 0), ("vest / ann / ", 0)):
            self.bad(BadLine, number, texts.read_history, self.chart, text)
        # The survey does not tell on CUTS.
        self.assertEqual(texts.read_history((("a",), ((),)), "vest / ann / a"), (("vest", "ann", ((("a", True),),)),))

    def test_numbers_of_many_digits(self):
        digits = "9" * 5000
        self.assertEqual(texts.read_world(((), ()), f"* {digits} ann"), (((), 10 ** 5000 - 1, "ann"),))
        self.bad(BadText, 0, texts.read_world, ((), ()), f"* 0{digits} ann")


if __name__ == "__main__":
    unittest.main()
