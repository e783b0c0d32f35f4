"""The desk beside a plain one: requests told by patterns, and put to the plain Board of the tests."""

import unittest
from random import Random

from landpoints import desk
from landpoints.errors import BadLine
from tests import grounds, histories, plain, plain_texts
from tests.plain_board import PlainBoard
from tests.test_board import some_deed

# What stands behind each word; the last one may have blanks in it.
FORMS = {"area": ("name",), "survey": ("condition",), "doubt": ("condition",), "write": ("deed",),
         "strike": ("number",), "exchange": ("number",), "point": ("spot", "number", "name"), "leave": ("number",),
         "keep": ("name", "cut"), "drop": ("name",), "undo": (), "chart": (), "world": (), "deed": ("number",),
         "owners": (), "charges": ("number",), "kept": (), "ways": (), "inside": ("name",), "changed": (), "idle": (),
         "owner": ("name",), "surely": ("name",), "size": ("name",), "many": (), "deeds": ()}
READS = {"name": lambda text: text if plain_texts.fits(plain_texts.NAME, text) else None,
         "number": lambda text: int(text) if plain_texts.fits(plain_texts.NUMBER, text) else None,
         "spot": plain_texts.spot, "condition": plain_texts.condition, "cut": plain_texts.cut,
         "deed": plain_texts.deed}


def parts_of(line):
    """The word and the texts behind it, as many as the request has; None if there are too few or too many."""
    word, *rest = line.split(" ")
    kinds = FORMS.get(word)
    if kinds is None or len(rest) < len(kinds) or rest and not kinds:
        return None
    if kinds:
        rest[len(kinds) - 1:] = [" ".join(rest[len(kinds) - 1:])]
    return word, dict(zip(kinds, rest)) if len(set(kinds)) == len(kinds) else None


def told(line):
    """The word and the values of a request; None if it is none."""
    parts = parts_of(line)
    if parts is None:
        return None
    values = {kind: READS[kind](text) for kind, text in parts[1].items()}
    return None if None in values.values() else (parts[0], values)


def areas_in(values):
    found = set(values.get("spot", ())) | plain_texts.areas_of(values.get("cut", ()))
    found |= plain_texts.areas_of((values.get("condition", ()),))
    for part in values.get("deed", ()):
        if type(part) is tuple:
            found |= plain_texts.areas_of(part)
    return found


def text_of(value):
    """The reply that tells such a value."""
    if value is None:
        return "-"
    if type(value) is tuple:
        return " ".join(map(str, value)) or "-"
    return str(value)


def answer(board, word, values):
    """The reply of a plain Board; its errors are not caught here."""
    given = list(values.values())
    if word in ("area", "survey", "doubt", "write", "strike", "exchange", "point", "leave", "keep", "drop", "undo"):
        getattr(board, word)(*given)
        return "done"
    if word == "chart":
        return plain_texts.written(board.chart(), "map")
    if word == "world":
        return plain_texts.written(board.world(), "world")
    if word == "deed":
        row = dict(enumerate(board.history()))
        return plain_texts.written(row[given[0]], "deed") if given[0] in row else "refused NoDeed"
    if word == "kept":
        return text_of(tuple(name for name, _ in board.kept()))
    if word == "ways":
        return text_of(tuple(f"{one}>{other}" for one, other in board.ways()))
    if word == "many":
        return str(len(board.history()))
    if word == "deeds":
        return str(len(board.past))
    return text_of(getattr(board, {"owner": "one_owner"}.get(word, word))(*given))


def reply(board, line):
    word, values = told(line)
    if not areas_in(values) <= set(board.chart()[0]):
        return "refused NoArea"
    try:
        return answer(board, word, values)
    except (LookupError, ValueError) as error:
        return f"refused {type(error).__name__}"


def replies(areas, text):
    board = PlainBoard(areas)
    return [reply(board, line) for line in text.split("\n")] if text else []


def some_line(chosen, board):
    """A request, often a deed; some name areas that are none."""
    if chosen.random() < 0.6:
        word, values = some_deed(chosen, board)
        if all(type(value) is not int or value >= 0 for value in values):
            kinds = FORMS[word]
            return " ".join([word] + [plain_texts.written(value, kind) if type(value) is tuple else str(value)
                                      for kind, value in zip(kinds, values)])
    word = chosen.choice(sorted(FORMS) + ["charges", "charges", "owner", "surely", "inside", "keep", "ways"])
    strange = tuple(sorted({*board.chart()[0][-1:], "sea"}))
    cuts = grounds.some_cuts(strange, 5, 2)
    some = {"name": lambda: chosen.choice(("a", "zed", "zed", "ann", "bob")),
            "number": lambda: str(chosen.choice((0, 0, 1, 2, 7))),
            "spot": lambda: plain_texts.written(chosen.choice(plain.subsets(strange)), "spot"),
            "condition": lambda: plain_texts.written(chosen.choice(plain.all_conditions(strange)), "condition"),
            "cut": lambda: plain_texts.written(chosen.choice(cuts), "cut"),
            "deed": lambda: plain_texts.written(histories.some_deed(chosen, chosen.choice(histories.ALL_WORDS), cuts),
                                                "deed")}
    if word == "write" and len(board.history()) > 9 or word == "point" and len(board.world()) > 5:
        word = "undo"
    return " ".join([word] + [some[kind]() for kind in FORMS[word]])


def rows(name, many, longest=45):
    """Triples of AREAS, the lines of requests, and the replies to them."""
    chosen = Random(name)
    for _ in range(many):
        areas = grounds.areas_of(chosen.randint(0, 2))
        board, lines, wanted = PlainBoard(areas), [], []
        for _ in range(chosen.randint(1, longest)):
            line = some_line(chosen, board)
            lines.append(line)
            wanted.append(reply(board, line))
        yield areas, lines, wanted


class Replies(unittest.TestCase):
    def look(self, areas, pairs):
        """Pairs of requests and replies."""
        text = "\n".join(line for line, _ in pairs)
        self.assertEqual(list(zip(text.split("\n"), desk.replies(areas, text))), list(pairs))
        self.assertEqual(replies(areas, text), [wanted for _, wanted in pairs])

    def test_rows(self):
        seen = {}
        for areas, lines, wanted in rows("rows", 300):
            found = desk.replies(areas, "\n".join(lines))
            self.assertIsInstance(found, list)
            self.assertEqual(list(zip(lines, found)), list(zip(lines, wanted)))
            for line, text in zip(lines, wanted):
                self.assertIs(desk.is_request(line), True, line)
                word = line.split(" ")[0]
                kind = text if text.startswith("refused") or text in ("done", "-") else "told"
                seen[word, kind] = seen.get((word, kind), 0) + 1
        for word, kinds in FORMS.items():
            self.assertTrue({(word, "done"), (word, "told")} & set(seen), word)
        for word, error in (("area", "Known"), ("survey", "Unfit"), ("survey", "NoArea"), ("doubt", "CanNot"),
                            ("doubt", "NoArea"), ("write", "NoArea"), ("strike", "NoDeed"), ("exchange", "NoDeed"),
                            ("point", "Unfit"), ("point", "NoArea"), ("leave", "NoPoint"), ("keep", "Known"),
                            ("keep", "NoArea"), ("drop", "CanNot"), ("undo", "NothingDone"), ("deed", "NoDeed"),
                            ("charges", "NoPoint"), ("inside", "CanNot"), ("owner", "CanNot"), ("surely", "CanNot"),
                            ("surely", "Unfit")):
            self.assertIn((word, f"refused {error}"), seen)
        for word in ("owners", "charges", "kept", "ways", "inside", "changed", "idle", "owner", "world"):
            self.assertTrue((word, "-") in seen and (word, "told") in seen, word)

    def test_each_request(self):
        self.look(("a",), (
            ("owners", "-"), ("kept", "-"), ("ways", "-"), ("changed", "-"), ("idle", "-"), ("world", "-"),
            ("chart", "a / -"), ("many", "0"), ("deeds", "0"), ("size ann", "0"),
            ("undo", "refused NothingDone"), ("deed 0", "refused NoDeed"), ("strike 0", "refused NoDeed"),
            ("exchange 0", "refused NoDeed"), ("leave 0", "refused NoPoint"), ("charges 0", "refused NoPoint"),
            ("drop k", "refused CanNot"), ("inside k", "refused CanNot"), ("owner k", "refused CanNot"),
            ("surely k", "refused CanNot"), ("doubt a", "refused CanNot"), ("area a", "refused Known"),
            ("area b", "done"), ("survey a+b", "done"), ("chart", "a b / a+b"), ("survey *", "done"),
            ("chart", "a b / * a+b"), ("point a 1 ann", "refused Unfit"), ("doubt *", "done"),
            ("point a 10 ann", "done"),
            ("point * 1 ann", "done"), ("point b 5 bob", "done"), ("world", "a 10 ann / * 1 ann / b 5 bob"),
            ("survey *", "refused Unfit"), ("survey a", "refused Unfit"), ("write way / a / -a", "done"),
            ("ways", "0>2"), ("write vest / cid / b", "done"), ("changed", "2"), ("owners", "ann ann cid"),
            ("size ann", "11"), ("size cid", "5"), ("keep k a b", "done"), ("keep a *", "done"), ("keep n -", "done"),
            ("kept", "a k n"), ("keep k -", "refused Known"), ("inside k", "0 2"), ("inside a", "0 1 2"),
            ("inside n", "-"), ("owner k", "-"), ("surely k", "-"), ("drop a", "done"), ("owner n", "-"),
            ("surely n", "-"), ("write give / ann / cid / *", "done"), ("owner k", "cid"), ("idle", "0"),
            ("ways", "-"), ("write charge / debt / a b", "done"), ("write charge / loan / *", "done"),
            ("charges 2", "debt loan"), ("charges 1", "loan"), ("charges 3", "refused NoPoint"),
            ("deed 1", "vest / cid / b"), ("deed 3", "charge / debt / a b"), ("exchange 3", "done"),
            ("deed 3", "charge / loan / *"), ("exchange 4", "refused NoDeed"), ("strike 4", "done"), ("many", "4"),
            ("charges 0", "loan"), ("leave 0", "done"), ("world", "* 1 ann / b 5 bob"), ("undo", "done"),
            ("changed", "-"), ("world", "a 10 ann / * 1 ann / b 5 bob"), ("deeds", "18"),
            ("write whole / ann / bob / -", "done"), ("surely k", "refused Unfit"), ("surely z", "refused CanNot"),
            ("deed 4", "whole / ann / bob / -")))

    def test_no_area_ahead_of_all_else(self):
        self.look(("a",), (
            ("survey sea", "refused NoArea"), ("survey -sea", "refused NoArea"), ("doubt a+sea", "refused NoArea"),
            ("doubt a", "refused CanNot"), ("point sea 0 ann", "refused NoArea"), ("point a 0 ann", "refused Unfit"),
            ("keep k *", "done"), ("keep k sea", "refused NoArea"), ("keep k a", "refused Known"),
            ("keep k a -sea", "refused NoArea"), ("write way / a / sea", "refused NoArea"),
            ("write way / sea / a", "refused NoArea"), ("write give / sea / ann / a", "done"),
            ("write charge / sea / sea", "refused NoArea"), ("write lift / sea / -", "done"),
            ("area sea", "done"), ("point sea 0 ann", "refused Unfit"), ("point sea 2 ann", "done"), ("undo", "done"),
            ("undo", "done"), ("point sea 2 ann", "refused NoArea"), ("many", "2"), ("deeds", "3")))

    def test_what_is_refused_changes_nothing(self):
        ahead = ("write vest / ann / *", "point * 1 bob", "keep k *", "write charge / debt / *")
        looks = ("chart", "world", "kept", "owners", "changed", "idle", "many", "deeds", "deed 0", "charges 0",
                 "surely k", "owner k")
        wanted = desk.replies(("a",), "\n".join(ahead + looks))
        for line in ("area a", "survey *", "survey -a", "survey sea", "doubt *", "write way / * / sea", "strike 2",
                     "exchange 1", "exchange 9", "point * 0 ann", "point sea 1 ann", "leave 1", "keep k -",
                     "keep n sea", "drop n", "deed 2", "charges 1", "inside n", "owner n", "surely n"):
            found = desk.replies(("a",), "\n".join(ahead + (line,) + looks))
            self.assertTrue(found.pop(len(ahead)).startswith("refused "), line)
            self.assertEqual(found, wanted)

    def test_each_text_is_put_to_a_new_board(self):
        text = "area b\nwrite vest / ann / b\npoint b 1 bob\nowners\ndeeds"
        first = desk.replies(("a",), text)
        self.assertEqual(first, ["done", "done", "done", "ann", "3"])
        first.clear()
        self.assertEqual(desk.replies(("a",), text), ["done", "done", "done", "ann", "3"])
        self.assertEqual(desk.replies(["a"], text), ["done", "done", "done", "ann", "3"])
        self.assertEqual(desk.replies(areas=(), text="chart"), ["- / -"])

    def test_empty_text(self):
        self.assertEqual(desk.replies(("a",), ""), [])
        self.assertIsNot(desk.replies((), ""), desk.replies((), ""))


class Requests(unittest.TestCase):
    def bad(self, number, areas, text):
        with self.assertRaises(BadLine) as caught:
            desk.replies(areas, text)
        self.assertEqual((type(caught.exception), vars(caught.exception)), (BadLine, {"number": number}), text)

    def test_lines_that_are_almost_requests(self):
        chosen = Random("almost")
        found = {True: 0, False: 0}
        for areas, lines, _ in rows("almost", 12, 20):
            for line in chosen.sample(lines, min(5, len(lines))):
                for text in plain_texts.bent(line, "ab+-* /\n0A", (" ", " / ")):
                    wanted = "\n" not in text and told(text) is not None
                    self.assertIs(desk.is_request(text), wanted, text)
                    found[wanted] += 1
        self.assertGreater(min(found.values()), 500, found)

    def test_bad_lines(self):
        """The first one is told, ahead of all replies, also of those that are refused."""
        for text, number in (("\n", 0), ("undo\n", 1), ("owners\n\nlook", 1), ("look", 0), (" undo", 0), ("undo ", 0),
                             ("undo\nundo\nUndo\nundo", 2), ("area sea\narea Sea\nlook", 1), ("undo\r\nundo", 0),
                             ("strike 01\nlook", 0), ("chart\nworld\nstrike -1", 2), ("strike", 0), ("owners all", 0)):
            self.bad(number, ("a",), text)
        for areas, lines, _ in rows("bad", 20, 10):
            for at in range(len(lines) + 1):
                self.bad(at, areas, "\n".join(lines[:at] + ["look"] + lines[at:] + ["look"]))
            self.bad(len(lines), areas, "\n".join(lines) + "\n")

    def test_each_form(self):
        forms = {"name": (("a", "zzzzzzzz"), ("", "A", "abcdefghi", "a1", "-", "*", "a b", "a ", chr(228), "a\n")),
                 "number": (("0", "7", "10", "1" + "0" * 5000), ("", "-1", "+1", "01", "00", "1.0", "1_0", "a", "0x1",
                                                                 "1 ", chr(0x661), chr(0xb2), "-", "1\n")),
                 "spot": (("*", "a", "sea+wood"), ("", "-", "-a", "wood+sea", "a+a", "+a", "a+", "a b", "*+a", "A",
                                                   "a\n")),
                 "condition": (("*", "a", "-a", "sea+-wood"), ("", "-", "--a", "wood+sea", "a+-a", "-a-b", "a b",
                                                             "-*")),
                 "cut": (("-", "*", "a", "-a a", "-sea+-wood sea"), ("", "a -a", "a a", "a  b", " a", "- a", "a -",
                                                                 "**")),
                 "deed": (("give / ann / bob / *", "vest / a / -", "swap / b / a / a b", "whole / ann / bob / -a",
                           "way / * / sea", "end / - / -", "charge / a / a", "lift / a / *", "yield / a / b / -"),
                          ("", "give", "give / ann / ann / *", "vest / ann", "vest / ann / * / *", "way / *",
                           "look / a", "vest/ann/*", "vest / Ann / *", "give / ann / bob / b a",
                           "vest / ann / *\nvest / ann / *"))}
        for word, kinds in FORMS.items():
            fine = [forms[kind][0][0] for kind in kinds]
            self.assertIs(desk.is_request(" ".join([word] + fine)), True)
            for at, kind in enumerate(kinds):
                for wanted, texts in zip((True, False), forms[kind]):
                    for text in texts:
                        line = " ".join([word] + fine[:at] + [text] + fine[at + 1:])
                        self.assertIs(desk.is_request(line), wanted, line[:80])
            line = " ".join([word] + fine)
            # A CUT or a DEED may go on.
            longer = [] if kinds[-1:] in (("cut",), ("deed",)) else [line + " a"]
            for other in (word + " ", " " + line, line + " ", line.title(), line.replace(word, word + "e", 1),
                          line.replace(" ", "  ", 1) + " " * (not kinds), " ".join([word] + fine[1:] + ["A"]), *longer):
                self.assertIs(desk.is_request(other), False, other)

    def test_things_of_all_sorts(self):
        for thing in (None, True, False, 0, 1, -1, 10 ** 40, (), [], ("undo",), ["undo"], (("undo",),), "", " ", "\n",
                      grounds.nested(12), b"undo", "undo\n", "\nundo", "undo\nundo", "UNDO", "undo\t", "undo\r",
                      "undo" + chr(0xa0), "und" + chr(0xf8), "a" * 10 ** 6, " " * 10 ** 5, "undo " * 10 ** 4):
            self.assertIs(desk.is_request(thing), False)
        for word, kinds in FORMS.items():
            self.assertIs(desk.is_request(word), not kinds)
        self.assertIs(desk.is_request("keep k " + " ".join("a" + letter for letter in "abcdefghijklm")), True)
        self.assertIs(desk.is_request(f"strike {'9' * 10 ** 5}"), True)

    def test_numbers_of_many_digits(self):
        many = "1" + "0" * 300
        self.assertEqual(desk.replies((), f"strike {many}\npoint * {many} ann\nsize ann\nworld\ncharges {many}"),
                         ["refused NoDeed", "done", many, f"* {many} ann", "refused NoPoint"])


if __name__ == "__main__":
    unittest.main()
