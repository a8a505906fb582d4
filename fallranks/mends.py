"""Wishes for programs, and the least sets of changed lines with which they hold."""

from fallranks.bounds import bound
from fallranks.errors import InvalidChanges, InvalidText, InvalidWish, InvalidWishes
from fallranks.keeping import unkept
from fallranks.levels import fewest, has_row
from fallranks.limits import MOST_CHANGES
from fallranks.programs import check_program
from fallranks.values import are_integers, is_change, is_integer, is_name


def holds(program, wish):
    """Whether the wish holds for the program."""
    check_program(program)
    check_wish(wish)
    word = wish[0]
    if word == "row":
        return has_row(program)
    if word == "ranks":
        return _has_few_ranks(program, wish[1])
    if word == "kept":
        return not unkept(program)
    return _is_within(program, wish[1], wish[2], wish[3])


def mends(program, wishes, changes):
    """All least sets of the changes that mend the program for these wishes, each as the indexes of its changes."""
    check_program(program)
    _check_wishes(wishes)
    _check_changes(changes, len(program.text.split("\n")))
    found = []
    for part in _parts(len(changes)):
        if not _has_within(part, found) and _is_mended(program, wishes, [changes[at] for at in part]):
            found.append(part)
    return tuple(found)


def check_wish(wish):
    """Raises InvalidWish for what is no wish."""
    if not _is_wish(wish):
        raise InvalidWish(wish)


def _check_wishes(wishes):
    """Raises InvalidWishes for what is no row of wishes."""
    if not isinstance(wishes, tuple):
        raise InvalidWishes(None)
    for at, wish in enumerate(wishes):
        if not _is_wish(wish):
            raise InvalidWishes(at)


def _check_changes(changes, many):
    """Raises InvalidChanges for what is no row of changes of a text with so many lines, or is too long a one."""
    if not isinstance(changes, tuple):
        raise InvalidChanges(None)
    for at, change in enumerate(changes):
        if at >= MOST_CHANGES or not is_change(change, many):
            raise InvalidChanges(at)


def _is_wish(value):
    """Whether this is a wish."""
    if not isinstance(value, tuple) or not value or not isinstance(value[0], str):
        return False
    if value[0] == "ranks":
        return len(value) == 2 and is_integer(value[1]) and value[1] >= 0
    if value[0] == "within":
        return len(value) == 4 and _is_asked_state(value[1], value[2]) and is_integer(value[3])
    return len(value) == 1 and value[0] in ("row", "kept")


def _is_asked_state(place, point):
    """Whether these are a name and a tuple of integers; they need not be a place and a point of a program."""
    return is_name(place) and isinstance(point, tuple) and are_integers(point, len(point))


def _has_few_ranks(program, most):
    """Whether there is a row of at most so many ranks."""
    many = fewest(program)
    return many is not None and many <= most


def _is_within(program, place, point, number):
    """Whether the bound at this state is less than a number; there may be no such state, and no such bound."""
    if place not in program.places or not are_integers(point, len(program.names)):
        return False
    amount = bound(program, place, point)
    if amount is None or amount == "endless":
        return False
    return amount[0] < number * amount[1]


def _parts(many):
    """All sets of so many indexes, the smaller ones first, those of one size ascending."""
    parts = [()]
    for at in range(many):
        parts = parts + [(*part, at) for part in parts]
    return sorted(parts, key=lambda one: (len(one), one))


def _has_within(part, found):
    """Whether one of these sets is within the set."""
    return any([all([at in part for at in other]) for other in found])


def _is_mended(program, wishes, changes):
    """Whether these changes are of different lines and make a program for which the wishes hold."""
    lines = [line for line, _ in changes]
    if len(set(lines)) < len(lines):
        return False
    try:
        changed = program.changed(tuple(changes))
    except InvalidText:
        return False
    for wish in wishes:
        if not holds(changed, wish):
            return False
    return True
