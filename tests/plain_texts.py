"""A plain look at texts: written sign by sign, and read by patterns; nothing here calls the package."""

import re

from tests import plain

NAME = "[a-z]{1,8}"
SPOT = rf"\*|{NAME}(\+{NAME})*"
CONDITION = rf"\*|-?{NAME}(\+-?{NAME})*"
NUMBER = "0|[1-9][0-9]*"
FORMS = {"give": "nnc", "vest": "nc", "swap": "nnc", "whole": "nnc", "way": "cc", "end": "cc", "charge": "nc",
         "lift": "nc", "yield": "nnc"}


def fits(pattern, text):
    return re.fullmatch(f"({pattern})", text, re.ASCII) is not None


def ascends(row):
    return list(row) == sorted(set(row))


def words(text):
    return [] if text == "-" else text.split(" ")


def spot(word):
    """The SPOT of whatever areas with this word; None if there is none."""
    names = [] if word == "*" else word.split("+")
    return tuple(names) if fits(SPOT, word) and ascends(names) else None


def condition(word):
    if not fits(CONDITION, word):
        return None
    names = [part.replace("-", "") for part in word.split("+") if part != "*"]
    sides = ["-" not in part for part in word.split("+") if part != "*"]
    return tuple(zip(names, sides)) if ascends(names) else None


def cut(text):
    row = [condition(word) for word in words(text)]
    return None if None in row or not ascends(row) else tuple(row)


def areas_of(some_cut):
    return {area for one in some_cut for area, _ in one}


def deed(line):
    """The DEED of whatever areas with this line; None if there is none."""
    word, *parts = line.split(" / ")
    form = FORMS.get(word, "")
    if not form or len(parts) != len(form):
        return None
    told = [word]
    for kind, part in zip(form, parts):
        if kind == "n" and not fits(NAME, part) or kind == "c" and cut(part) is None:
            return None
        told.append(part if kind == "n" else cut(part))
    names = told[1:1 + form.count("n")]
    return tuple(told) if len(set(names)) == len(names) else None


def wrong_word(text, reads, is_let):
    """The number of the first word that is wrong in a text that is to ascend; None if there is none."""
    row = [reads(word) for word in words(text)]
    for at, one in enumerate(row):
        if one is None or not is_let(one) or at and not row[at - 1] < one:
            return at
    return None


def wrong_in_cut(chart, text):
    return wrong_word(text, condition, lambda one: {area for area, _ in one} <= set(chart[0]))


def wrong_in_land(chart, text):
    return wrong_word(text, spot, lambda one: one in plain.let(chart))


def wrong_in_map(text):
    parts = text.split(" / ")
    names = words(parts[0])
    if not all(fits(NAME, name) for name in names) or not ascends(names):
        return 0
    if len(parts) == 1 or cut(parts[1]) is None or not areas_of(cut(parts[1])) <= set(names):
        return 1
    return 2 if len(parts) > 2 else None


def wrong_in_world(chart, text):
    for at, part in enumerate([] if text == "-" else text.split(" / ")):
        row = part.split(" ")
        if len(row) != 3 or spot(row[0]) not in plain.let(chart) or not fits(NUMBER, row[1]) or row[1] == "0":
            return at
        if not fits(NAME, row[2]):
            return at
    return None


def wrong_line(chart, text):
    for at, line in enumerate(text.split("\n") if text else []):
        told = deed(line)
        if told is None or not all(areas_of(part) <= set(chart[0]) for part in told if type(part) is tuple):
            return at
    return None


def written(value, kind):
    """The text of a value of this kind."""
    if kind == "spot":
        return "+".join(value) or "*"
    if kind == "condition":
        return "+".join(("" if inside else "-") + area for area, inside in value) or "*"
    if kind == "cut":
        return " ".join(written(one, "condition") for one in value) or "-"
    if kind == "land":
        return " ".join(written(one, "spot") for one in value) or "-"
    if kind == "map":
        return (" ".join(value[0]) or "-") + " / " + written(value[1], "cut")
    if kind == "world":
        return " / ".join(f"{written(place, 'spot')} {size} {first}" for place, size, first in value) or "-"
    if kind == "deed":
        return " / ".join(part if type(part) is str else written(part, "cut") for part in value)
    return "\n".join(written(one, "deed") for one in value)


def bent(text, signs="abz+-* /\n0A", parts=(" ", " / ", "\n")):
    """Texts that come of this one by one change: of a sign, a word, a part, a line."""
    for at in range(len(text) + 1):
        yield text[:at] + text[at + 1:]
        for sign in signs:
            yield text[:at] + sign + text[at:]
            yield text[:at] + sign + text[at + 1:]
    for part in parts:
        row = text.split(part)
        for at in range(len(row)):
            yield part.join(row[:at] + row[at + 1:])
            yield part.join(row[:at] + row[at:at + 1] + row[at:])
            yield part.join(row[:at] + row[at + 1:at + 2] + row[at:at + 1] + row[at + 2:])
            for other in ("", "-", "*", "a", "-b", "a+b", "abcdefgh", "abcdefghi"):
                yield part.join(row[:at] + [other] + row[at:])
                yield part.join(row[:at] + [other] + row[at + 1:])
