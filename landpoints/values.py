"""Plain values: what the other files need to tell and to make numbers, NAMES, tuples and sets."""


def as_tuples(value):
    """The value with tuples in the place of all lists in it."""
    if isinstance(value, (list, tuple)):
        return tuple([as_tuples(part) for part in value])
    return value


def as_set(values):
    """The ascending tuple of these values, each once."""
    return tuple(sorted(set(values)))


def all_parts(members):
    """The ascending tuple of all sets of some of the members, which ascend."""
    parts = [()]
    for member in members:
        parts = parts + [part + (member,) for part in parts]
    return tuple(sorted(parts))


def is_number(thing):
    """Whether thing is a number: True and False are none."""
    return isinstance(thing, int) and not isinstance(thing, bool)


def is_name(thing):
    """Whether thing is a NAME."""
    if not isinstance(thing, str) or not 1 <= len(thing) <= 8:
        return False
    return all(["a" <= letter <= "z" for letter in thing])


def is_row(thing, many):
    """Whether thing is a tuple of so many members."""
    return isinstance(thing, tuple) and len(thing) == many


def is_ascending(row):
    """Whether each member is greater than the one ahead of it; the members can be compared."""
    return all([row[at] < row[at + 1] for at in range(len(row) - 1)])


def is_name_set(thing):
    """Whether thing is a set of NAMES."""
    return isinstance(thing, tuple) and all([is_name(name) for name in thing]) and is_ascending(thing)


def is_number_set(thing):
    """Whether thing is a set of numbers."""
    return isinstance(thing, tuple) and all([is_number(number) for number in thing]) and is_ascending(thing)


def is_named_row(thing):
    """Whether thing is an ascending tuple of pairs, the first of each a NAME, none of these twice."""
    if not isinstance(thing, tuple):
        return False
    if not all([is_row(pair, 2) and is_name(pair[0]) for pair in thing]):
        return False
    return is_ascending([pair[0] for pair in thing])
