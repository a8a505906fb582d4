"""The checker: whether a certificate shows that a claim is true, whoever wrote it.

It finds nothing by itself: it adds and multiplies what the certificate holds,
and looks whether the branches of a bar are open.
"""

from fallranks.errors import InvalidText
from fallranks.least import arrows, reach_points
from fallranks.programs import Program
from fallranks.ranks import fall_form, form_at, is_rank
from fallranks.values import are_integers, is_index, is_integer, value_at, weighed
from fallranks.walking import fits, state_behind


def _is_amount(value):
    """Whether this is an integer of at least 0."""
    return is_integer(value) and value >= 0


def _are_amounts(value, many):
    """Whether this is a tuple of so many integers of at least 0."""
    return are_integers(value, many) and all([number >= 0 for number in value])


def _is_tuple(value, many):
    """Whether this is a tuple with so many elements."""
    return isinstance(value, tuple) and len(value) == many


def _is_state(program, place, point):
    """Whether these are a place and a point of the program."""
    return isinstance(place, str) and place in program.places and are_integers(point, len(program.names))


def _summed(tests, amounts, size):
    """The sum of the tests, multiplied by the amounts, as a form with so many numbers."""
    return [sum([amount * test[at] for amount, test in zip(amounts, tests)]) for at in range(size)]


def _are_weights(value, tests, form):
    """Whether these are weights for a form on a branch with these tests."""
    if not _is_tuple(value, 3):
        return False
    d, amounts, rest = value
    if not _is_amount(d) or d < 1 or not _are_amounts(amounts, len(tests)) or not _is_amount(rest):
        return False
    total = _summed(tests, amounts, len(form))
    return [d * number for number in form] == [*total[:-1], total[-1] + rest]


def _shows_dead(program, index, paper):
    """Whether a paper shows that a branch is dead."""
    tests = program.all_tests(index)
    if len(paper) != 2 or not _are_amounts(paper[1], len(tests)):
        return False
    total = _summed(tests, paper[1], len(program.names) + 1)
    return not any(total[:-1]) and total[-1] < 0


def _shows_falling(program, index, row, paper):
    """Whether a paper shows that a rank falls on a branch, as a row of ranks asks for it."""
    if len(paper) != 3 or not is_index(paper[1], len(row)) or not _is_tuple(paper[2], paper[1] + 1):
        return False
    last = paper[1]
    return all([_shows_one(program, index, row[at], pair, at == last) for at, pair in enumerate(paper[2])])


def _shows_one(program, index, rank, pair, falls):
    """Whether a pair of weights shows that a rank stands on a branch and does not rise on it, or falls on it."""
    if not _is_tuple(pair, 2):
        return False
    d, forms = rank
    tests = program.all_tests(index)
    less = fall_form(program, index, forms)
    if falls:
        less = (*less[:-1], less[-1] - d)
    standing = form_at(program, program.branches[index][0], forms)
    return _are_weights(pair[0], tests, standing) and _are_weights(pair[1], tests, less)


def _is_right_paper(program, index, row, paper):
    """Whether this is a paper for a branch and a row of ranks."""
    if not isinstance(paper, tuple) or not paper or not isinstance(paper[0], str):
        return False
    if paper[0] == "dead":
        return _shows_dead(program, index, paper)
    return paper[0] == "falls" and _shows_falling(program, index, row, paper)


def _shows_row(program, many, certificate):
    """Whether this certificate shows that there is a row of so many ranks."""
    if not _is_tuple(certificate, 2):
        return False
    row, papers = certificate
    if not _is_tuple(row, many) or not all([is_rank(program, rank) for rank in row]):
        return False
    if not _is_tuple(papers, len(program)):
        return False
    return all([_is_right_paper(program, index, row, paper) for index, paper in enumerate(papers)])


def _is_part(program, value):
    """Whether this can be a quadruple of a bar, by itself."""
    if not _is_tuple(value, 4) or not is_index(value[0], len(program)) or not _is_amount(value[1]):
        return False
    index, height, point, way = value
    many = len(program.names)
    if not are_integers(point, many) or not are_integers(way, many):
        return False
    tests = program.all_tests(index)
    if not all([weighed(test, (*point, height)) >= 0 and weighed(test, (*way, 0)) >= 0 for test in tests]):
        return False
    # Where the height is 0 nothing else shows that the branch has points.
    return reach_points(arrows(tests, many))


def _is_bar(program, value):
    """Whether this is a bar for some open branches."""
    if not isinstance(value, tuple) or not all([_is_part(program, part) for part in value]):
        return False
    indexes = [part[0] for part in value]
    if not all([one < other for one, other in zip(indexes, indexes[1:])]):
        return False
    return all([_leaves(program, place, value) == _arrives(program, place, value) for place in program.places])


def _leaves(program, place, bar):
    """The sums, for the branches of a bar from this place, of points and ways, and behind them of the heights."""
    total = [0 for _ in range(len(program.names) + 1)]
    for index, height, point, way in bar:
        if program.branches[index][0] == place:
            total = [one + two + three for one, two, three in zip(total, (*point, height), (*way, 0))]
    return total


def _arrives(program, place, bar):
    """The sums, for the branches of a bar to this place, of what is behind the changes, and of the heights."""
    total = [0 for _ in range(len(program.names) + 1)]
    for index, height, point, _ in bar:
        if program.branches[index][1] == place:
            behind = [weighed(change, (*point, height)) for change in program.branches[index][3]]
            total = [one + two for one, two in zip(total, [*behind, height])]
    return total


def _high_ones(bar):
    """The branches of a bar with a height above 0."""
    return [index for index, height, _, _ in bar if height > 0]


def _check_ranks(program, told, certificate):
    """Whether these are what a claim with the word `ranks` tells behind its text, and a certificate for it."""
    return len(told) == 1 and _is_amount(told[0]) and _shows_row(program, told[0], certificate)


def _check_fewest(program, told, certificate):
    """Whether these are what a claim with the word `fewest` tells behind its text, and a certificate for it."""
    if len(told) != 1 or not _is_amount(told[0]) or told[0] < 2 or not _is_tuple(certificate, told[0] - 1):
        return False
    if not all([_is_bar(program, bar) for bar in certificate]):
        return False
    for bar, behind in zip(certificate, certificate[1:]):
        if not all([part[0] in _high_ones(bar) for part in behind]):
            return False
    return bool(_high_ones(certificate[-1]))


def _check_none(program, told, certificate):
    """Whether these are what a claim with the word `none` tells behind its text, and a certificate for it."""
    if told or not _is_bar(program, certificate):
        return False
    return len(certificate) > 0 and len(_high_ones(certificate)) == len(certificate)


def _are_branches(program, value):
    """Whether this is a tuple of indexes of branches."""
    return isinstance(value, tuple) and all([is_index(index, len(program)) for index in value])


def _check_endless(program, told, certificate):
    """Whether these are what a claim with the word `endless` tells behind its text, and a certificate for it."""
    if len(told) != 2 or not _is_state(program, told[0], told[1]) or not _is_tuple(certificate, 2):
        return False
    way, ring = certificate
    if not _are_branches(program, way) or not _are_branches(program, ring) or not ring:
        return False
    start = _state_after(program, told, way)
    return start is not None and _state_after(program, start, ring) == start


def _state_after(program, state, indexes):
    """The state behind these branches, None if they cannot be taken one behind another."""
    for index in indexes:
        branch = program.branches[index]
        if not fits(branch, state[0], state[1]):
            return None
        state = state_behind(branch, state[1])
    return state


def _check_within(program, told, certificate):
    """Whether these are what a claim with the word `within` tells behind its text, and a certificate for it."""
    if len(told) != 3 or not _is_state(program, told[0], told[1]) or not _is_amount(told[2]):
        return False
    if not _shows_row(program, 1, certificate):
        return False
    d, forms = certificate[0][0]
    return value_at(form_at(program, told[0], forms), told[1]) < told[2] * d


CHECKS = {"ranks": _check_ranks, "fewest": _check_fewest, "none": _check_none, "endless": _check_endless,
          "within": _check_within}


def accepts(claim, certificate):
    """Whether this is a claim for the checker, with a certificate for it; both may be anything."""
    if not isinstance(claim, tuple) or len(claim) < 2 or not isinstance(claim[0], str) or claim[0] not in CHECKS:
        return False
    try:
        program = Program.read(claim[1])
    except InvalidText:
        return False
    check = CHECKS[claim[0]]
    return check(program, claim[2:], certificate)
