"""Texts: CUTS, LANDS, MAPS, HISTORIES and WORLDS written down, and read again."""

from landpoints.areas import is_condition, is_cut, is_let_spot
from landpoints.deeds import cuts_of, is_way
from landpoints.errors import BadLine, BadText
from landpoints.titles import is_deed
from landpoints.values import as_set, is_ascending, is_name, is_name_set


def cut_text(cut):
    """The text of the CUT."""
    return row_text([condition_word(condition) for condition in cut])


def land_text(land):
    """The text of the LAND."""
    return row_text([spot_word(spot) for spot in land])


def map_text(chart):
    """The text of the MAP."""
    areas, bare = chart
    return row_text(areas) + " / " + cut_text(bare)


def history_text(history):
    """The text of the HISTORY, "whole" let, too: a line for each DEED."""
    return "\n".join([deed_line(deed) for deed in history])


def world_text(world):
    """The text of the WORLD."""
    if not world:
        return "-"
    return " / ".join([f"{spot_word(spot)} {size} {first}" for spot, size, first in world])


def read_map(text):
    """The MAP with just this text."""
    parts = text.split(" / ")
    areas = tuple(words_in(parts[0]))
    if not is_name_set(areas):
        raise BadText(0)
    bare = told_cut(parts[1]) if len(parts) > 1 else None
    if not is_cut(areas, bare):
        raise BadText(1)
    if len(parts) > 2:
        raise BadText(2)
    return areas, bare


def read_cut(chart, text):
    """The CUT of the AREAS of the MAP with just this text."""
    conditions = [told_condition(word) for word in words_in(text)]
    return checked_row([condition if is_condition(chart[0], condition) else None for condition in conditions])


def read_land(chart, text):
    """The LAND of the MAP with just this text."""
    spots = [told_spot(word) for word in words_in(text)]
    return checked_row([spot if is_let_spot(chart, spot) else None for spot in spots])


def read_world(chart, text):
    """The WORLD of the MAP with just this text."""
    points = [] if text == "-" else [told_point(chart, part) for part in text.split(" / ")]
    for piece, point in enumerate(points):
        if point is None:
            raise BadText(piece)
    return tuple(points)


def read_history(chart, text):
    """The HISTORY of the MAP with just this text, "whole" let, too."""
    deeds = [] if text == "" else [told_deed(line) for line in text.split("\n")]
    for number, deed in enumerate(deeds):
        if not is_deed(chart, deed):
            raise BadLine(number)
    return tuple(deeds)


def row_text(words):
    """The words with a blank between two, - if there are none."""
    return " ".join(list(words)) if words else "-"


def spot_word(spot):
    """The word of the SPOT."""
    return "+".join(list(spot)) if spot else "*"


def condition_word(condition):
    """The word of the CONDITION."""
    return spot_word([name if inside else "-" + name for name, inside in condition])


def deed_line(deed):
    """The line of the DEED."""
    return " / ".join([part if isinstance(part, str) else cut_text(part) for part in deed])


def words_in(text):
    """The list of the words of the text."""
    return [] if text == "-" else text.split(" ")


def told_spot(word):
    """The SPOT of whatever areas with this word; None if there is none."""
    names = () if word == "*" else tuple(word.split("+"))
    return names if is_name_set(names) else None


def told_condition(word):
    """The CONDITION of whatever areas with this word; None if there is none."""
    parts = [] if word == "*" else word.split("+")
    pairs = [(part[1:], False) if part.startswith("-") else (part, True) for part in parts]
    names = tuple([name for name, _ in pairs])
    return tuple(pairs) if is_name_set(names) else None


def told_cut(text):
    """The CUT of whatever areas with this text; None if there is none."""
    conditions = [told_condition(word) for word in words_in(text)]
    if any([condition is None for condition in conditions]) or not is_ascending(conditions):
        return None
    return tuple(conditions)


def told_deed(line):
    """The DEED of whatever areas with this line, "whole" let, too; None if there is none."""
    parts = line.split(" / ")
    many = 2 if is_way(parts) else 1
    cuts = [told_cut(part) for part in parts[-many:]]
    if any([cut is None for cut in cuts]):
        return None
    deed = tuple(parts[:-many]) + tuple(cuts)
    return deed if is_deed((areas_in(cuts), ()), deed) else None


def told_point(chart, part):
    """The POINT of the MAP with this text; None if there is none."""
    words = part.split(" ")
    if len(words) != 3:
        return None
    spot, size, first = told_spot(words[0]), words[1], words[2]
    if not is_let_spot(chart, spot) or not is_number_text(size) or size == "0" or not is_name(first):
        return None
    return spot, told_number(size), first


def is_number_text(word):
    """Whether the word is the text of a number from 0."""
    if not word or not all(["0" <= sign <= "9" for sign in word]):
        return False
    return word == "0" or word[0] != "0"


def told_number(word):
    """The number with this text."""
    number = 0
    # Digit by digit: of very many of them Python's own way makes an error.
    for sign in word:
        number = number * 10 + ord(sign) - ord("0")
    return number


def areas_in(cuts):
    """The set of the areas that the CUTS name."""
    return as_set([name for cut in cuts for condition in cut for name, _ in condition])


def areas_in_deed(deed):
    """The set of the areas that the DEED names."""
    return areas_in(cuts_of(deed))


def checked_row(members):
    """The tuple of these; raises BadText for the first that is None, or not greater than the one ahead of it."""
    for piece, member in enumerate(members):
        if member is None or piece > 0 and member <= members[piece - 1]:
            raise BadText(piece)
    return tuple(members)
