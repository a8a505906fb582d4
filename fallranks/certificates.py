"""Certificates: claims for the checker about a program, and what shows that they are true."""

from fallranks.bounds import has_one_level, least_rank, rank_value
from fallranks.least import lowest, settled
from fallranks.levels import falls_table, ladder, open_arrows
from fallranks.programs import check_place, check_point, check_program
from fallranks.ranks import fall_form, form_at
from fallranks.values import weighed
from fallranks.walking import fits, longest_runs, state_behind, ways_from


def certify_row(program):
    """The claim that there is a row with the fewest ranks, or that there is none, and a certificate."""
    check_program(program)
    steps, rest = ladder(program)
    if rest:
        return ("none", program.text), _bar(program, rest)
    row = tuple([rank for _, rank in steps])
    return ("ranks", program.text, len(row)), _row_certificate(program, row, [level for level, _ in steps])


def certify_fewest(program):
    """The claim that there is no row of fewer ranks than levels, and a certificate.

    None if something is left, or there are fewer than two levels.
    """
    check_program(program)
    steps, rest = ladder(program)
    if rest or len(steps) < 2:
        return None
    bars = []
    for at in range(len(steps) - 1):
        indexes = sorted([index for level, _ in steps[at:] for index in level])
        bars.append(_bar(program, indexes))
    return ("fewest", program.text, len(steps)), tuple(bars)


def certify_endless(program, place, point):
    """The claim that there is an endless run from this state, and a certificate; None if all of them end."""
    check_program(program)
    check_place(program, place)
    check_point(program, point)
    ends = longest_runs(ways_from(program, (place, point)))
    if (place, point) in ends:
        return None
    return ("endless", program.text, place, point), _way_and_ring(program, (place, point), ends)


def certify_within(program, place, point):
    """The claim that tells the most branches of a run from this state by the bound, and a certificate.

    None if there is no bound that is a number.
    """
    check_program(program)
    check_place(program, place)
    check_point(program, point)
    if not has_one_level(program):
        return None
    rank = least_rank(program, place, point)
    if rank is None:
        return None
    amount = rank_value(program, rank, place, point)
    most = max(0, amount[0] // amount[1] + 1)
    level = tuple(open_arrows(program))
    return ("within", program.text, place, point, most), _row_certificate(program, (rank,), [level])


def _row_certificate(program, row, levels):
    """The pair of a row of ranks and the papers for the branches, which fall on these levels."""
    papers = []
    for index in range(len(program)):
        falling = [at for at, level in enumerate(levels) if index in level]
        papers.append(_falls_paper(program, index, row, falling[0]) if falling else _dead_paper(program, index))
    return row, tuple(papers)


def _falls_paper(program, index, row, last):
    """The paper for an open branch on which the rank with the last index falls."""
    source = program.branches[index][0]
    tests = program.all_tests(index)
    pairs = []
    for at in range(last + 1):
        d, forms = row[at]
        less = fall_form(program, index, forms)
        if at == last:
            less = (*less[:-1], less[-1] - d)
        pairs.append((_weights(tests, form_at(program, source, forms)), _weights(tests, less)))
    return "falls", last, tuple(pairs)


def _weights(tests, form):
    """The weights for a form that is at least 0 on an open branch with these tests."""
    alone = (*[0 for _ in form[1:]], 1)
    table = settled([*tests, alone], form, [0 for _ in range(len(tests) + 1)])
    d, *amounts = lowest([table.whole, *table.amounts()])
    return d, tuple(amounts[:-1]), amounts[-1]


def _dead_paper(program, index):
    """The paper for a dead branch."""
    tests = program.all_tests(index)
    table = settled(tests, (*[0 for _ in program.names], -1), [0 for _ in tests])
    return "dead", lowest(table.amounts())


def _bar(program, indexes):
    """A bar of these open branches, whose heights are above 0 where no rank falls that stands and does not rise."""
    found = open_arrows(program)
    remaining = {index: found[index] for index in indexes}
    amounts = falls_table(program, remaining).amounts()
    numbers = []
    for some in remaining.values():
        # Two columns for each arrow: its standing, of which only ways have amounts, and its falling.
        mine = amounts[:2 * len(some)]
        amounts = amounts[2 * len(some):]
        *way, _ = [weighed(mine[::2], column) for column in zip(*some)]
        *point, height = [weighed(mine[1::2], column) for column in zip(*some)]
        numbers.extend([height, *point, *way])
    size = 2 * len(program.names) + 1
    plain = lowest(numbers)
    return tuple([_quadruple(index, plain[at * size:(at + 1) * size]) for at, index in enumerate(remaining)])


def _quadruple(index, numbers):
    """The part of a bar for a branch, of its height, its point and its way in one row."""
    middle = len(numbers) // 2 + 1
    return index, numbers[0], numbers[1:middle], numbers[middle:]


def _way_and_ring(program, state, ends):
    """A way to a state, and a ring of branches back to it; not all runs from the first state end."""
    seen = {}
    taken = []
    while state not in seen:
        seen[state] = len(taken)
        index = _endless_branch(program, state, ends)
        taken.append(index)
        state = state_behind(program.branches[index], state[1])
    return tuple(taken[:seen[state]]), tuple(taken[seen[state]:])


def _endless_branch(program, state, ends):
    """The first branch that can be taken in this state to one from which not all runs end."""
    for index, branch in enumerate(program.branches):
        if fits(branch, state[0], state[1]) and state_behind(branch, state[1]) not in ends:
            return index
    return None
