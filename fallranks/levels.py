"""Levels: which branches are dead, and which ones each rank of a shortest row of ranks takes."""

from fallranks.least import arrows, lowest, reach_points, settled
from fallranks.programs import check_program
from fallranks.values import weighed


def dead(program):
    """The indexes of the branches without points."""
    check_program(program)
    found = open_arrows(program)
    return tuple([index for index in range(len(program)) if index not in found])


def levels(program):
    """The levels, each as the indexes of its branches."""
    check_program(program)
    steps, _ = ladder(program)
    return tuple([level for level, _ in steps])


def left(program):
    """The indexes of the branches that are in no level, though they are open."""
    check_program(program)
    _, rest = ladder(program)
    return rest


def has_row(program):
    """Whether there is a row of ranks."""
    check_program(program)
    _, rest = ladder(program)
    return not rest


def fewest(program):
    """The fewest ranks of a row of ranks, None if there is none."""
    check_program(program)
    steps, rest = ladder(program)
    return None if rest else len(steps)


def open_arrows(program):
    """The arrows of each open branch, by its index, as `least` describes arrows."""
    found = {}
    for index in range(len(program)):
        some = arrows(program.all_tests(index), len(program.names))
        if reach_points(some):
            found[index] = some
    return found


def ladder(program):
    """A list of pairs of a level and a rank that falls on it by at least 1, and the indexes that are left."""
    remaining = open_arrows(program)
    steps = []
    while remaining:
        level, rank = _widest(program, remaining)
        if not level:
            break
        steps.append((level, rank))
        remaining = {index: remaining[index] for index in remaining if index not in level}
    return steps, tuple(remaining)


def _widest(program, remaining):
    """The level of these branches, and a rank that stands and does not rise on them and falls on the level."""
    table = falls_table(program, remaining)
    size = _rank_size(program)
    prices = table.prices()
    level = tuple([index for index, fall in zip(remaining, prices[size:]) if fall > 0])
    return level, rank_of(program, table.whole, prices[:size])


def falls_table(program, remaining):
    """The table, at its least cost, for a rank that stands and does not rise on these branches and falls on most.

    The prices of the equations are the numbers of the forms of the rank, and
    for each branch by how much the rank falls on it, which counts up to 1. At
    the least cost the falls have the greatest sum, so each of them is 0 or 1:
    what can fall at all can be multiplied until it falls by 1.

    The first columns are those of the demands. Their amounts are those of a bar
    of these branches: the rank does not fall on a branch exactly if the arrows,
    multiplied by the amounts of its falling, have a height above 0.
    """
    size = _rank_size(program)
    units = [[1 if other == one else 0 for other in remaining] for one in remaining]
    columns = []
    costs = []
    for index, row, height in demands(program, remaining):
        columns.append([*[-number for number in row], *[height if other == index else 0 for other in remaining]])
        costs.append(0)
    for sign, cost in ((1, 1), (-1, 0)):
        for unit in units:
            columns.append([*[0 for _ in range(size)], *[sign * number for number in unit]])
            costs.append(cost)
    return settled(columns, [*[0 for _ in range(size)], *[1 for _ in units]], costs)


def _rank_size(program):
    """How many numbers the forms of a rank have."""
    return len(program.places) * (len(program.names) + 1)


def demands(program, remaining):
    """What a rank needs to stand on these branches and to fall on them: triples (index, row, height).

    There are two for each arrow: one for its standing and one for its falling.
    The numbers of its forms, of one place behind those of another, are
    multiplied by those of the row; the sum is to be at least the height
    multiplied by what the rank falls on the branch with this index.
    """
    told = []
    for index, some in remaining.items():
        branch = program.branches[index]
        for arrow in some:
            before = at_place(program, branch[0], arrow)
            behind = at_place(program, branch[1], _led(branch, arrow))
            told.append((index, before, 0))
            told.append((index, [one - other for one, other in zip(before, behind)], arrow[-1]))
    return told


def _led(branch, arrow):
    """The arrow behind a branch."""
    return [*[weighed(change, arrow) for change in branch[3]], arrow[-1]]


def at_place(program, place, numbers):
    """The numbers among zeros, where the form for this place stands in a rank."""
    zeros = [0 for _ in numbers]
    return [number for other in program.places for number in (numbers if other == place else zeros)]


def rank_of(program, whole, numbers):
    """The rank with these numbers in its forms, all divided by `whole`, in lowest terms."""
    plain = lowest([whole, *numbers])
    size = len(program.names) + 1
    return plain[0], tuple([plain[1 + at * size:1 + (at + 1) * size] for at in range(len(program.places))])
