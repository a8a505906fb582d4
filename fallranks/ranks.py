"""Ranks: a shortest row of them, the judging of rows that somebody wrote, and how much a rank falls."""

from fallranks.errors import InvalidRank, InvalidRanks, NoRow
from fallranks.least import arrows, least_at, lowest
from fallranks.levels import ladder, open_arrows
from fallranks.programs import check_index, check_program
from fallranks.values import are_integers, is_integer, weighed


def ranks(program):
    """A row of ranks with the fewest ranks, each falling on the level with its index."""
    check_program(program)
    steps, rest = ladder(program)
    if rest:
        raise NoRow(rest)
    return tuple([rank for _, rank in steps])


def judge(program, row):
    """The indexes of the open branches for which a row of ranks has no index; none if it is right."""
    check_program(program)
    _check_row(program, row)
    found = open_arrows(program)
    return tuple([index for index in found if not _is_taken(program, index, found[index], row)])


def fall(program, index, rank):
    """The least amount by which a rank falls on the points of a branch; "endless", or None if it is dead."""
    check_program(program)
    check_index(program, index)
    if not is_rank(program, rank):
        raise InvalidRank(rank)
    return _fall_at(program, index, arrows(program.all_tests(index), len(program.names)), rank)


def is_rank(program, value):
    """Whether this is a rank for the program."""
    if not isinstance(value, tuple) or len(value) != 2:
        return False
    d, forms = value
    if not is_integer(d) or d < 1:
        return False
    if not isinstance(forms, tuple) or len(forms) != len(program.places):
        return False
    return all([are_integers(form, len(program.names) + 1) for form in forms])


def _check_row(program, row):
    """Raises InvalidRanks for what is no row of ranks of the program."""
    if not isinstance(row, tuple):
        raise InvalidRanks(None)
    for at, rank in enumerate(row):
        if not is_rank(program, rank):
            raise InvalidRanks(at)


def _is_taken(program, index, found, row):
    """Whether a row has a rank that falls on an open branch with these arrows.

    Those up to this one must stand on the branch, and those before it not rise.
    """
    for rank in row:
        if not is_enough(least_at(found, form_at(program, program.branches[index][0], rank[1])), 0):
            return False
        amount = _fall_at(program, index, found, rank)
        if is_enough(amount, 1):
            return True
        if not is_enough(amount, 0):
            return False
    return False


def is_enough(amount, number):
    """Whether a least amount is at least this number."""
    return amount != "endless" and amount[0] >= number * amount[1]


def _fall_at(program, index, found, rank):
    """The least amount by which a rank falls on a branch with these arrows, as `fall` tells it."""
    d, forms = rank
    amount = least_at(found, fall_form(program, index, forms))
    if amount is None or amount == "endless":
        return amount
    return lowest((amount[0], d * amount[1]))


def fall_form(program, index, forms):
    """The form for the source of a branch, less the one for its target behind the changes."""
    source, target, _, changes = program.branches[index]
    behind = moved(form_at(program, target, forms), changes)
    return tuple([one - other for one, other in zip(form_at(program, source, forms), behind)])


def form_at(program, place, forms):
    """The form for this place, of forms for all places."""
    return forms[program.places.index(place)]


def moved(form, changes):
    """The form that has ahead of the changes the value that this one has behind them."""
    rows = [*changes, [*[0 for _ in changes], 1]]
    return [weighed(form, column) for column in zip(*rows)]
