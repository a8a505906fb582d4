"""Another way to least values and levels: fractions, and the multipliers of point [11], so that errors differ."""

from fractions import Fraction


def solved(rows, ends, costs):
    """The least cost and the amounts of at least 0 with rows * amounts = ends; None if none, "endless" if no least."""
    many = len(costs)
    table = []
    for at, row in enumerate(rows):
        sign = -1 if ends[at] < 0 else 1
        lacks = [int(other == at) for other in range(len(rows))]
        table.append([Fraction(number) for number in [*[sign * one for one in row], *lacks, sign * ends[at]]])
    base = [many + at for at in range(len(rows))]
    if descended(table, base, [0] * many + [1] * len(rows), many) != 0:
        return None
    for at in range(len(rows)):
        others = [to for to in range(many) if table[at][to] != 0]
        if base[at] >= many and others:
            cleared(table, base, at, others[0])
    cost = descended(table, base, list(costs) + [0] * len(rows), many)
    if cost is None:
        return "endless"
    amounts = [Fraction(0)] * (many + len(rows))
    for at, to in enumerate(base):
        amounts[to] = table[at][-1]
    return cost, amounts[:many]


def descended(table, base, costs, many):
    """The least cost that this table comes to; None if there is none."""
    while True:
        sums = [cost - sum(costs[to] * row[k] for to, row in zip(base, table)) for k, cost in enumerate(costs[:many])]
        falling = [k for k, number in enumerate(sums) if number < 0]
        if not falling:
            return sum(costs[to] * row[-1] for to, row in zip(base, table))
        to = falling[0]
        tight = [(row[-1] / row[to], base[at], at) for at, row in enumerate(table) if row[to] > 0]
        if not tight:
            return None
        cleared(table, base, min(tight)[2], to)


def cleared(table, base, at, to):
    """Solves one row of the table for another amount."""
    table[at] = [number / table[at][to] for number in table[at]]
    for other, row in enumerate(table):
        if other != at and row[to] != 0:
            table[other] = [one - row[to] * two for one, two in zip(row, table[at])]
    base[at] = to


def least(tests, form):
    """As `fallranks.least.least`, for right arguments."""
    rows = [[*test[:-1], *[-one for one in test[:-1]], *[-int(at == other) for other in range(len(tests))]]
            for at, test in enumerate(tests)]
    costs = [*form[:-1], *[-one for one in form[:-1]], *[0 for _ in tests]]
    found = solved(rows, [-test[-1] for test in tests], costs)
    if found is None or found == "endless":
        return found
    value = found[0] + form[-1]
    return value.numerator, value.denominator


def levels(program):
    """The dead branches, the levels, and what is left."""
    zero = (0,) * (len(program.names) + 1)
    rest = [index for index in range(len(program)) if least(program.all_tests(index), zero) is not None]
    dead = tuple(index for index in range(len(program)) if index not in rest)
    found = []
    while rest and (level := top_level(program, rest)):
        found.append(level)
        rest = [index for index in rest if index not in level]
    return dead, tuple(found), tuple(rest)


class Equations:
    """Equations between amounts of at least 0 with names, among them each number of the forms of a rank, as plus and
    minus, and the multipliers for its standing and its falling on branches."""

    def __init__(self, program, rest):
        self.program = program
        self.size = len(program.names) + 1
        self.names = [(sign, place, k) for sign in (1, -1) for place in program.places for k in range(self.size)]
        for index in rest:
            many = len(program.all_tests(index)) + 1
            self.names += [(kind, index, k) for kind in ("stand", "fall") for k in range(many)]
            self.names += [("by", index, 0), ("less", index, 0)]
        self.where = {name: at for at, name in enumerate(self.names)}
        self.rows = []
        self.ends = []
        for index in rest:
            self.ask(index)

    def add(self, parts, end):
        row = [0] * len(self.names)
        for name, number in parts:
            row[self.where[name]] += number
        self.rows.append(row)
        self.ends.append(end)

    def ask(self, index):
        """The rank stands on the branch, and falls on it by what is called `by`, which is at most 1."""
        alone = (0,) * (self.size - 1) + (1,)
        source, target, _, changes = self.program.branches[index]
        tests = [*self.program.all_tests(index), alone]
        for k in range(self.size):
            before = [((sign, source, k), sign) for sign in (1, -1)]
            behind = [((sign, target, at), -sign * change[k]) for sign in (1, -1)
                      for at, change in enumerate([*changes, alone])]
            self.add(before + [(("stand", index, at), -test[k]) for at, test in enumerate(tests)], 0)
            by = [(("by", index, 0), -alone[k])]
            self.add(before + behind + by + [(("fall", index, at), -test[k]) for at, test in enumerate(tests)], 0)
        self.add([(("by", index, 0), 1), (("less", index, 0), 1)], 1)

    def solved(self, costs):
        """The least cost and the amounts, for the costs of some names."""
        return solved(self.rows, self.ends, [costs.get(name, 0) for name in self.names])


def top_level(program, rest):
    """The branches of these on which a rank falls that stands and does not rise on all of them."""
    equations = Equations(program, rest)
    _, amounts = equations.solved({("by", index, 0): -1 for index in rest})
    return tuple(index for index in rest if amounts[equations.where["by", index, 0]] > 0)


def bound(program, place, point):
    """The bound at a state."""
    dead, steps, rest = levels(program)
    if len(steps) != 1 or rest:
        return None
    equations = Equations(program, steps[0])
    for index in steps[0]:
        equations.add([(("by", index, 0), 1)], 1)
    costs = {(sign, place, k): sign * number for sign in (1, -1) for k, number in enumerate((*point, 1))}
    found = equations.solved(costs)
    return found if found == "endless" else (found[0].numerator, found[0].denominator)


def follows(tests, form):
    """Whether a form is at least 0 wherever the tests hold, which is somewhere."""
    value = least(tests, form)
    return value != "endless" and value[0] >= 0


def behind(form, changes):
    """The form that has ahead of the changes the value that this one has behind them."""
    rows = [*changes, (0,) * len(changes) + (1,)]
    return tuple(sum(number * row[at] for number, row in zip(form, rows)) for at in range(len(form)))


def unkept(program):
    """The pairs of a branch and a saying that it does not keep."""
    return tuple((index, at) for index, branch in enumerate(program.branches)
                 for at, (place, form) in enumerate(program.sayings)
                 if place == branch[1] and least(program.all_tests(index), (0,) * len(form)) is not None
                 and not follows(program.all_tests(index), behind(form, branch[3])))


def needless(program):
    """The pairs of a branch and a test that follows from the others."""
    pairs = []
    for index, branch in enumerate(program.branches):
        tests = program.all_tests(index)
        if least(tests, (0,) * (len(program.names) + 1)) is not None:
            pairs += [(index, at) for at in range(len(branch[2])) if follows(tests[:at] + tests[at + 1:], tests[at])]
    return tuple(pairs)
