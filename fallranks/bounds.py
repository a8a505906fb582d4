"""Bounds: the least value at a state of one rank that falls on all open branches."""

from fallranks.least import lowest, solve
from fallranks.levels import at_place, demands, ladder, open_arrows, rank_of
from fallranks.programs import check_place, check_point, check_program
from fallranks.ranks import form_at
from fallranks.values import value_at


def bound(program, place, point):
    """The bound for this state: a fraction, or "endless"; None if there is not just one level, or something is left."""
    check_program(program)
    check_place(program, place)
    check_point(program, point)
    if not has_one_level(program):
        return None
    rank = least_rank(program, place, point)
    return "endless" if rank is None else rank_value(program, rank, place, point)


def has_one_level(program):
    """Whether the program has just one level, and nothing left."""
    steps, rest = ladder(program)
    return len(steps) == 1 and not rest


def least_rank(program, place, point):
    """The rank with the least value at this state, of those that stand and fall on all open branches.

    None if there is no least value. The program must have such ranks.
    """
    columns = []
    costs = []
    # The prices are the numbers of the rank, turned: at the least cost its value is the least.
    for _, row, height in demands(program, open_arrows(program)):
        columns.append(row)
        costs.append(-height)
    found = solve(columns, at_place(program, place, (*point, 1)), costs)
    if found is None:
        return None
    whole, prices = found
    return rank_of(program, whole, [-price for price in prices])


def rank_value(program, rank, place, point):
    """The value of a rank at this state."""
    d, forms = rank
    return lowest((value_at(form_at(program, place, forms), point), d))
