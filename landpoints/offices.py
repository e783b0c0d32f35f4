"""Offices: what an office can tell of a point that knows only in which of its own areas it lies."""

from landpoints.areas import check_areas, is_cut, is_in, is_spot, is_world, keeps, let_spots, spots_of
from landpoints.deeds import cuts_of, fates_at
from landpoints.errors import NoOffice
from landpoints.titles import is_plain_history, owner_behind
from landpoints.values import all_parts, as_set, is_name, is_number, is_row


def is_offices(chart, thing):
    """Whether thing are OFFICES of the MAP, however many."""
    return isinstance(thing, tuple) and len(thing) > 0 and all([is_spot(chart[0], own) for own in thing])


def is_question(chart, thing):
    """Whether thing is a QUESTION of the MAP."""
    if is_row(thing, 2) and thing[0] == "in":
        return is_cut(chart[0], thing[1])
    if is_row(thing, 2) and thing[0] == "owner":
        return is_plain_history(chart, thing[1])
    if is_row(thing, 3) and thing[0] == "from":
        return is_name(thing[1]) and is_plain_history(chart, thing[2])
    return False


def answer_at(question, spot):
    """The answer of the QUESTION at the SPOT."""
    if question[0] == "in":
        return is_in(spot, question[1])
    if question[0] == "owner":
        return fates_at(question[1], spot).get("")
    return owner_behind(question[2], spot, question[1])


def view(offices, office, spot):
    """The set of those own areas of the office in which the SPOT lies."""
    check_offices(offices, (office,))
    return seen_by(offices[office], spot)


def is_own(chart, offices, office, question):
    """Whether any two LET SPOTS of which the office has one view have one answer."""
    check_offices(offices, (office,))
    return is_told_by(chart, offices[office], question)


def own_offices(chart, offices, question):
    """The set of the numbers of the offices to which the QUESTION is own."""
    return tuple([office for office, own in enumerate(offices) if is_told_by(chart, own, question)])


def own_land(chart, offices, office, question):
    """The LAND of the LET SPOTS that have the answer of all others of one view with them."""
    check_offices(offices, (office,))
    own, let, told = offices[office], let_spots(chart), {}
    for spot in let:
        told.setdefault(seen_by(own, spot), {})[answer_at(question, spot)] = True
    return tuple([spot for spot in let if len(told[seen_by(own, spot)]) == 1])


def office_paper(chart, offices, office, question):
    """A WORLD of two POINTS of one view and of unlike answers; None if there is none."""
    check_offices(offices, (office,))
    firsts = {}
    for spot in let_spots(chart):
        answer = answer_at(question, spot)
        other, told = firsts.setdefault(seen_by(offices[office], spot), (spot, answer))
        if told != answer:
            return (other, 1, "a"), (spot, 1, "a")
    return None


def is_office_paper(chart, offices, office, question, thing):
    """Whether thing is a WORLD of two POINTS of one view and of unlike answers."""
    check_offices(offices, (office,))
    if not is_world(chart, thing) or len(thing) != 2:
        return False
    one, other = [spot for spot, _, _ in thing]
    if seen_by(offices[office], one) != seen_by(offices[office], other):
        return False
    return answer_at(question, one) != answer_at(question, other)


def is_enough(chart, offices, office, question, names):
    """Whether the office can tell the answer if it hears of these AREAS, too."""
    check_offices(offices, (office,))
    check_areas(chart, names)
    return is_told_by(chart, list(offices[office]) + list(names), question)


def fewest_asks(chart, offices, office, question):
    """As few AREAS as can be that are enough for the office, the least such set."""
    check_offices(offices, (office,))
    sets = [(len(names), names) for names in spots_of(chart[0])]
    return min([pair for pair in sets if is_enough(chart, offices, office, question, pair[1])])[1]


def needed_asks(chart, offices, office, question):
    """The set of the AREAS that are in each set that is enough for the office."""
    check_offices(offices, (office,))
    found = []
    for name in chart[0]:
        # More AREAS are never worse, so it is enough to ask of all others.
        others = [other for other in chart[0] if other != name]
        if not is_enough(chart, offices, office, question, others):
            found.append(name)
    return tuple(found)


def asks_behind(chart, question, condition):
    """After how many asks at the worst the answer of a point that keeps the CONDITION is sure."""
    return asks_among(unasked(chart, condition), answers_in(chart, question, condition))


def next_ask(chart, question, condition):
    """The least AREA that can be asked next if the asks are to be as few as can be; None if none has to be."""
    names, answers = unasked(chart, condition), answers_in(chart, question, condition)
    many = asks_among(names, answers)
    for name in names:
        if asks_by(names, answers, name) == many:
            return name
    return None


def most_asks(chart, offices, office, question):
    """The greatest number of asks that the office can need, of all its views of LET SPOTS."""
    check_offices(offices, (office,))
    own, numbers = offices[office], [0]
    for seen in views_of(chart, own):
        numbers.append(asks_behind(chart, question, [(name, name in seen) for name in own]))
    return max(numbers)


def are_together(chart, offices, some, question):
    """Whether the QUESTION is own to an office with all own areas of these."""
    check_offices(offices, some)
    return is_told_by(chart, [name for office in some for name in offices[office]], question)


def fewest_offices(chart, offices, question):
    """As few offices as can be that can tell the answer together, the least such set; None if there is none."""
    for _, some in sorted([(len(part), part) for part in all_parts(list(range(len(offices))))]):
        if are_together(chart, offices, some, question):
            return some
    return None


def knows_as_much(chart, offices, office, other):
    """Whether each QUESTION that is own to other is own to office."""
    check_offices(offices, (office, other))
    told = {}
    for spot in let_spots(chart):
        seen = seen_by(offices[other], spot)
        if told.setdefault(seen_by(offices[office], spot), seen) != seen:
            return False
    return True


def fewest_signs(chart, offices, office, other, question):
    """With how few signs of a letter from office other can tell the answer; None if it cannot."""
    letter = a_letter(chart, offices, office, other, question)
    return None if letter is None else len(set([sign for _, sign in letter]))


def a_letter(chart, offices, office, other, question):
    """A table of as few signs as can be by which other can tell the answer; None if there is none."""
    check_offices(offices, (office, other))
    views = views_of(chart, offices[office])
    clashes = clashes_of(chart, offices[office], offices[other], question)
    if any([(seen, seen) in clashes for seen in views]):
        return None
    many, signs = 0, signs_for(views, clashes, 0, ())
    while signs is None:
        many = many + 1
        signs = signs_for(views, clashes, many, ())
    return tuple(zip(views, signs))


def is_letter(chart, offices, office, other, question, thing):
    """Whether thing is a table of signs, any numbers from 0, by which other can tell the answer."""
    check_offices(offices, (office, other))
    if not isinstance(thing, tuple) or not all([is_row(pair, 2) and is_number(pair[1]) for pair in thing]):
        return False
    if tuple([pair[0] for pair in thing]) != views_of(chart, offices[office]):
        return False
    clashes = clashes_of(chart, offices[office], offices[other], question)
    signs = {seen: sign for seen, sign in thing}
    return all([sign >= 0 for _, sign in thing]) and all([signs[one] != signs[far] for one, far in clashes])


def home_offices(chart, offices, deed):
    """The set of the numbers of the offices that can tell of each point in which CUTS of the DEED it lies."""
    homes = [own_offices(chart, offices, ("in", cut)) for cut in cuts_of(deed)]
    return tuple([office for office in range(len(offices)) if all([office in home for home in homes])])


def check_offices(offices, numbers):
    """Raises NoOffice for the first of these numbers that is that of no office."""
    for number in numbers:
        if not 0 <= number < len(offices):
            raise NoOffice(number)


def seen_by(names, spot):
    """The tuple of those of these areas in which the SPOT lies."""
    return tuple([name for name in names if name in spot])


def views_of(chart, own):
    """The ascending tuple of the views of LET SPOTS by these own areas."""
    return as_set([seen_by(own, spot) for spot in let_spots(chart)])


def is_told_by(chart, names, question):
    """Whether any two LET SPOTS that have the same of these areas have one answer."""
    told = {}
    for spot in let_spots(chart):
        answer = answer_at(question, spot)
        if told.setdefault(seen_by(names, spot), answer) != answer:
            return False
    return True


def unasked(chart, condition):
    """The list of the AREAS that the CONDITION does not name."""
    known = [name for name, _ in condition]
    return [name for name in chart[0] if name not in known]


def answers_in(chart, question, condition):
    """A dict of the answers by the LET SPOTS that keep the CONDITION."""
    return {spot: answer_at(question, spot) for spot in let_spots(chart) if keeps(spot, condition)}


def asks_among(names, answers):
    """After how many asks of these AREAS at the worst, if they are as few as can be, one of these answers is left."""
    if len(set(list(answers.values()))) < 2:
        return 0
    return min([asks_by(names, answers, name) for name in names])


def asks_by(names, answers, name):
    """After how many asks it is so if this AREA is asked first."""
    others = [other for other in names if other != name]
    inside = {spot: answer for spot, answer in answers.items() if name in spot}
    outside = {spot: answer for spot, answer in answers.items() if name not in spot}
    return 1 + max(asks_among(others, inside), asks_among(others, outside))


def clashes_of(chart, own, far_own, question):
    """A dict of the pairs of views by own areas that must have unlike signs if one who has far_own is to tell."""
    cases = [(seen_by(own, spot), seen_by(far_own, spot), answer_at(question, spot)) for spot in let_spots(chart)]
    return {(one[0], far[0]): True for one in cases for far in cases if one[1] == far[1] and one[2] != far[2]}


def signs_for(views, clashes, many, signs):
    """So many signs laid out over the views, the first ones as these, unlike where they must; None if it cannot be."""
    if len(signs) == len(views):
        return signs
    # A sign that was not used yet is as good as each other such one.
    for sign in range(min(many, max(signs, default=-1) + 2)):
        if all([other != sign or (views[at], views[len(signs)]) not in clashes for at, other in enumerate(signs)]):
            found = signs_for(views, clashes, many, signs + (sign,))
            if found is not None:
                return found
    return None
