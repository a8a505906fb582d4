"""Another way to least values and levels: fractions, and the multipliers of point [11], so that errors differ."""

from fractions import Fraction


def solved(rows, ends, costs):
    """The least cost and the amounts of at least 0 with rows * amounts = ends; None if none, "endless" if no least."""
    many = len(costs)
    table = []
    for at, row in enumerate(rows):
        sign = -1 if ends[at] < 0 else 1
        lacks = [int(other == at) for other in range(len(rows))]
        table.append([Fraction(number) for number in [*[sign * one for one in row], *lacks, sign * ends[at]]])
    base = [many + at for at in range(len(rows))]
    if descended(table, base, [0] * many + [1] * len(rows), many) != 0:
        return None
    for at in range(len(rows)):
        others = [to for to in range(many) if table[at][to] != 0]
        if base[at] >= many and others:
            cleared(table, base, at, others[0])
    cost = descended(table, base, list(costs) + [0] * len(rows), many)
    if cost is None:
        return "endless"
    amounts = [Fraction(0)] * (many + len(rows))
    for at, to in enumerate(base):
        amounts[to] = table[at][-1]
    return cost, amounts[:many]


def descended(table, base, costs, many):
    """The least cost that this table comes to; None if there is none."""
    while True:
        sums = [cost - sum(costs[to] * row[k] for to, row in zip(base, table)) for k, cost in enumerate(costs[:many])]
        falling = [k for k, number in enumerate(sums) if number < 0]
        if not falling:
            return sum(costs[to] * row[-1] for to, row in zip(base, table))
        to = falling[0]
        tight = [(row[-1] / row[to], base[at], at) for at, row in enumerate(table) if row[to] > 0]
        if not tight:
            return None
        cleared(table, base, min(tight)[2], to)


def cleared(table, base, at, to):
    """Solves one row of the table for another amount."""
    table[at] = [number / table[at][to] for number in table[at]]
    for other, row in enumerate(table):
        if other != at and row[to] != 0:
            table[other] = [one - row[to] * two for one, two in zip(row, table[at])]
    base[at] = to


def least(tests, form):
    """As `fallranks.least.least`, for right arguments."""
    rows = [[*test[:-1], *[-one for one in test[:-1]], *[-int(at == other) for other in range(len(tests))]]
            for at, test in enumerate(tests)]
    costs = [*form[:-1], *[-one for one in form[:-1]], *[0 for _ in tests]]
    found = solved(rows, [-test[-1] for test in tests], costs)
    if found is None or found == "endless":
        return found
    value = found[0] + form[-1]
    return value.numerator, value.denominator


def levels(program):
    """The dead branches, the levels, and what is left."""
    zero = (0,) * (len(program.names) + 1)
    rest = [index for index in range(len(program)) if least(program.all_tests(index), zero) is not None]
    dead = tuple(index for index in range(len(program)) if index not in rest)
    found = []
    while rest and (level := top_level(program, rest)):
        found.append(level)
        rest = [index for index in rest if index not in level]
    return dead, tuple(found), tuple(rest)


def top_level(program, rest):
    """The branches of these on which a rank falls that stands and does not rise on all of them."""
    size = len(program.names) + 1
    alone = (0,) * (size - 1) + (1,)
    names = [(sign, place, k) for sign in (1, -1) for place in program.places for k in range(size)]
    for index in rest:
        many = len(program.all_tests(index)) + 1
        names += [(kind, index, k) for kind in ("stand", "fall") for k in range(many)]
        names += [("by", index, 0), ("less", index, 0)]
    where = {name: at for at, name in enumerate(names)}
    rows = []
    ends = []

    def add(parts, end):
        row = [0] * len(names)
        for name, number in parts:
            row[where[name]] += number
        rows.append(row)
        ends.append(end)

    for index in rest:
        source, target, _, changes = program.branches[index]
        tests = [*program.all_tests(index), alone]
        for k in range(size):
            before = [((sign, source, k), sign) for sign in (1, -1)]
            behind = [((sign, target, at), -sign * change[k]) for sign in (1, -1)
                      for at, change in enumerate([*changes, alone])]
            add(before + [(("stand", index, at), -test[k]) for at, test in enumerate(tests)], 0)
            by = [(("by", index, 0), -alone[k])]
            add(before + behind + by + [(("fall", index, at), -test[k]) for at, test in enumerate(tests)], 0)
        add([(("by", index, 0), 1), (("less", index, 0), 1)], 1)
    _, amounts = solved(rows, ends, [-int(name[0] == "by") for name in names])
    return tuple(index for index in rest if amounts[where["by", index, 0]] > 0)
