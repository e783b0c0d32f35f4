"""A desk: requests in lines, put one behind another to a Board, and a reply to each."""

from landpoints.areas import check_areas
from landpoints.board import Board
from landpoints.deeds import check_places
from landpoints.errors import BadLine, CanNot, Known, NoArea, NoDeed, NoPoint, NothingDone, Unfit
from landpoints.texts import areas_in, areas_in_deed, deed_line, is_number_text, map_text, row_text, told_condition
from landpoints.texts import told_cut, told_deed, told_number, told_spot, world_text
from landpoints.values import is_name

# What stands behind the word of a request.
DEEDS = {"area": ("name",), "survey": ("condition",), "doubt": ("condition",), "write": ("deed",),
         "strike": ("number",), "exchange": ("number",), "point": ("spot", "number", "name"), "leave": ("number",),
         "keep": ("name", "cut"), "drop": ("name",), "undo": ()}
QUESTIONS = {"chart": (), "world": (), "deed": ("number",), "owners": (), "charges": ("number",), "kept": (),
             "ways": (), "inside": ("name",), "changed": (), "idle": (), "owner": ("name",), "surely": ("name",),
             "size": ("name",), "many": (), "deeds": ()}


def is_request(thing):
    """Whether thing is a string that is a request."""
    if not isinstance(thing, str):
        return False
    kinds = kinds_behind(thing.split(" ")[0])
    if kinds is None:
        return False
    texts = texts_behind(thing, kinds)
    return len(texts) == len(kinds) and all([fits(kind, text) for kind, text in zip(kinds, texts)])


def replies(areas, text):
    """The list of the replies to the lines, put to a new Board of these AREAS."""
    lines = [] if text == "" else text.split("\n")
    for number, line in enumerate(lines):
        if not is_request(line):
            raise BadLine(number)
    board = Board(areas)
    return [reply_to(board, line) for line in lines]


def kinds_behind(word):
    """The tuple of the kinds of what stands behind the word of a request; None if there is no such request."""
    return DEEDS.get(word, QUESTIONS.get(word))


def texts_behind(line, kinds):
    """The list of the texts behind the word of the line, the last of so many with all that is left of it."""
    return line.split(" ", len(kinds))[1:] if kinds else line.split(" ")[1:]


def fits(kind, text):
    """Whether the text is one of this kind, of whatever areas."""
    if kind == "name":
        return is_name(text)
    # Numbers are not made out here, however many digits they have.
    return is_number_text(text) if kind == "number" else value_of(kind, text) is not None


def value_of(kind, text):
    """What the text of this kind tells, of whatever areas; None if it is none."""
    if kind == "number":
        return told_number(text)
    if kind == "spot":
        return told_spot(text)
    if kind == "condition":
        return told_condition(text)
    if kind == "cut":
        return told_cut(text)
    return told_deed(text) if kind == "deed" else text


def areas_of(kind, value):
    """The tuple of the areas that stand in a value of this kind."""
    if kind == "spot":
        return value
    if kind == "condition":
        return areas_in(((value,),))
    if kind == "cut":
        return areas_in((value,))
    return areas_in_deed(value) if kind == "deed" else ()


def reply_to(board, line):
    """The reply of the Board to the request."""
    try:
        return answer_to(board, line)
    except NoArea:
        return "refused NoArea"
    except NoDeed:
        return "refused NoDeed"
    except NoPoint:
        return "refused NoPoint"
    except NothingDone:
        return "refused NothingDone"
    except CanNot:
        return "refused CanNot"
    except Known:
        return "refused Known"
    except Unfit:
        return "refused Unfit"


def answer_to(board, line):
    """The reply to a request that is not refused."""
    word = line.split(" ")[0]
    kinds = kinds_behind(word)
    values = [value_of(kind, text) for kind, text in zip(kinds, texts_behind(line, kinds))]
    for kind, value in zip(kinds, values):
        check_areas(board.chart(), areas_of(kind, value))
    if word in DEEDS:
        do_deed(board, word, values)
        return "done"
    if values:
        return told_about(board, word, values[0])
    return told_of(board, word)


def do_deed(board, word, values):
    """Does the deed of the Board."""
    if word == "area":
        board.area(values[0])
    elif word == "survey":
        board.survey(values[0])
    elif word == "doubt":
        board.doubt(values[0])
    elif word == "write":
        board.write(values[0])
    elif word == "strike":
        board.strike(values[0])
    elif word == "exchange":
        board.exchange(values[0])
    elif word == "point":
        board.point(values[0], values[1], values[2])
    elif word == "leave":
        board.leave(values[0])
    elif word == "keep":
        board.keep(values[0], values[1])
    elif word == "drop":
        board.drop(values[0])
    else:
        board.undo()


def told_about(board, word, value):
    """The reply to a question about a number or a name."""
    if word == "deed":
        check_places(board.history(), (value,))
        return deed_line(board.history()[value])
    if word == "charges":
        return row_text(board.charges(value))
    if word == "inside":
        return numbers_text(board.inside(value))
    if word == "owner":
        return name_text(board.one_owner(value))
    if word == "surely":
        return name_text(board.surely(value))
    return str(board.size(value))


def told_of(board, word):
    """The reply to a question about nothing else."""
    if word == "chart":
        return map_text(board.chart())
    if word == "world":
        return world_text(board.world())
    if word == "owners":
        return row_text(board.owners())
    if word == "kept":
        return row_text([name for name, _ in board.kept()])
    if word == "ways":
        return row_text([f"{one}>{other}" for one, other in board.ways()])
    if word == "changed":
        return numbers_text(board.changed())
    if word == "idle":
        return numbers_text(board.idle())
    return str(len(board.history())) if word == "many" else str(len(board))


def numbers_text(numbers):
    """The text of the numbers."""
    return row_text([str(number) for number in numbers])


def name_text(name):
    """The text of the NAME, or of None."""
    return "-" if name is None else name
