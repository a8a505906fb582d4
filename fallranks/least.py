"""Least values: of a form at the points where tests hold, and of costs of amounts that make up given ends.

All is told in integers. Points where tests hold are told by arrows: tuples with
an integer for each variable and, behind them, a height, an integer of at least
0. An arrow with a height above 0 is a point, multiplied by its height; one with
the height 0 is a way that leads on without end. The points where the tests hold
are the sums of all arrows, multiplied by fractions of at least 0, that have the
height 1.
"""

from math import gcd

from fallranks.errors import InvalidForm, InvalidForms
from fallranks.limits import MOST_FORMS, MOST_VARIABLES
from fallranks.values import are_integers, weighed


def least(tests, form):
    """The least value of a form at all points where the tests are at least 0; None or "endless" if there is none."""
    _check_tests(tests)
    if not _is_any_form(form) or (tests and len(form) != len(tests[0])):
        raise InvalidForm(form)
    return least_at(arrows(tests, len(form) - 1), form)


def _check_tests(tests):
    """Raises InvalidForms for what is no row of forms of one length."""
    if not isinstance(tests, tuple):
        raise InvalidForms(None)
    for at, test in enumerate(tests):
        if at >= MOST_FORMS or not _is_any_form(test) or len(test) != len(tests[0]):
            raise InvalidForms(at)


def _is_any_form(value):
    """Whether this is a form for some number of variables, with integers of any size."""
    return any([are_integers(value, many + 1) for many in range(1, MOST_VARIABLES + 1)])


def least_at(found, form):
    """The least value of a form at all points with these arrows; None or "endless" if there is none."""
    if not reach_points(found):
        return None
    if [arrow for arrow in found if arrow[-1] == 0 and weighed(form, arrow) < 0]:
        return "endless"
    values = [(weighed(form, arrow), arrow[-1]) for arrow in found if arrow[-1] > 0]
    best = values[0]
    for value in values:
        if value[0] * best[1] < best[0] * value[1]:
            best = value
    return lowest(best)


def reach_points(found):
    """Whether there are points with these arrows."""
    return any([arrow[-1] > 0 for arrow in found])


def lowest(numbers):
    """The integers, not all of them 0, divided by the greatest number that divides all of them."""
    common = 0
    for number in numbers:
        common = gcd(common, number)
    return tuple([number // common for number in numbers])


def arrows(tests, many):
    """The arrows, as few as there can be, for the points for so many variables where these tests hold."""
    size = many + 1
    lines = [tuple([1 if other == at else 0 for other in range(size)]) for at in range(size)]
    found = []
    done = []
    # The height itself is the first thing that is to be at least 0.
    for test in [lines[-1], *tests]:
        lines, found = _cut(lines, found, done, test)
        done.append(test)
    return found + lines + [tuple([-number for number in line]) for line in lines]


def _cut(lines, found, done, test):
    """The lines, which go both ways, and the arrows that are left of these if one test more is to hold."""
    across = [line for line in lines if weighed(test, line) != 0]
    if not across:
        return lines, _cut_arrows(found, done, test)
    first = across[0]
    if weighed(test, first) < 0:
        first = tuple([-number for number in first])
    level_lines = [_leveled(line, first, test) for line in lines if line != across[0]]
    return level_lines, [_leveled(arrow, first, test) for arrow in found] + [first]


def _leveled(arrow, up, test):
    """The arrow, led back along another one, at which the test is above 0, to where the test is 0."""
    high = weighed(test, up)
    value = weighed(test, arrow)
    return lowest([high * one - value * other for one, other in zip(arrow, up)])


def _cut_arrows(found, done, test):
    """The arrows that are left of these if one test more is to hold, which is 0 on all lines."""
    left = [arrow for arrow in found if weighed(test, arrow) >= 0]
    for up in found:
        for down in found:
            if weighed(test, up) > 0 > weighed(test, down) and _are_neighbours(up, down, found, done):
                left.append(_leveled(down, up, test))
    return left


def _are_neighbours(one, other, found, done):
    """Whether no third arrow has the value 0 at all tests that are 0 at both of these."""
    common = [test for test in done if weighed(test, one) == 0 and weighed(test, other) == 0]
    between = [third for third in found if all([weighed(test, third) == 0 for test in common])]
    return len(between) == 2


def solve(columns, ends, costs):
    """The prices at the least cost: a pair (d, prices), or None if nothing makes up the ends.

    It is then the sum of the prices, divided by d, multiplied by the ends; and
    each column, multiplied by these prices, has at most its cost as the sum.
    """
    table = settled(columns, ends, costs)
    return None if table is None else (table.whole, table.prices())


def settled(columns, ends, costs):
    """The table that tells the amounts at the least cost, or None if nothing makes up the ends.

    Amounts of at least 0, one for each column, make up the ends if the columns,
    multiplied by the amounts, have them as their sum; each amount has its cost.
    There must be a least cost if there are amounts.
    """
    table = Table(columns, ends, costs)
    table.descend(table.lacks)
    if table.rows[table.lacks][-1] != 0:
        return None
    table.drop_lacks()
    table.descend(table.costs)
    return table


class Table:
    """Equations between amounts of at least 0, each solved for one of these, its base; the others are 0.

    Behind the amounts of the columns come the lacks: what still lacks to the end
    of each equation. Two rows more tell how the sum of all lacks and the costs
    change with each amount. All numbers are multiplied by `whole`, and so are
    integers.
    """

    def __init__(self, columns, ends, costs):
        size = len(ends)
        self.many = len(columns)
        self.ends = ends
        self.whole = 1
        self.base = [self.many + at for at in range(size)]
        self.rows = [_equation(columns, ends, at) for at in range(size)]
        self.lacks = size
        self.costs = size + 1
        sums = [-sum([row[to] for row in self.rows]) for to in range(self.many)]
        self.rows.append([*sums, *[0 for _ in ends], -sum([abs(end) for end in ends])])
        self.rows.append([*costs, *[0 for _ in ends], 0])

    def descend(self, which):
        """Brings amounts into the base as long as this makes what this row tells less."""
        falling = self._falling(which)
        while falling:
            # Always the first one: so no base comes again.
            self.pivot(self._tightest(falling[0]), falling[0])
            falling = self._falling(which)

    def _falling(self, which):
        """The amounts that make what this row tells less as they grow."""
        row = self.rows[which]
        return [to for to in range(self.many) if row[to] < 0]

    def _tightest(self, to):
        """The equation that lets the amount with this index grow the least, of several the one with the first base."""
        best = None
        for at in range(self.lacks):
            if self.rows[at][to] > 0 and (best is None or self._is_tighter(at, best, to)):
                best = at
        return best

    def _is_tighter(self, at, other, to):
        """Whether one equation lets an amount grow less than another one, or as much, and has an earlier base."""
        one = self.rows[at][-1] * self.rows[other][to]
        two = self.rows[other][-1] * self.rows[at][to]
        return one < two or (one == two and self.base[at] < self.base[other])

    def pivot(self, at, to):
        """Solves an equation for another amount."""
        chosen = self.rows[at]
        whole = self.whole
        self.rows = [row if k == at else _cleared(row, chosen, to, whole) for k, row in enumerate(self.rows)]
        self.whole = chosen[to]
        self.base[at] = to

    def drop_lacks(self):
        """Takes the lacks, all of which are 0, out of the base; they stay in equations that follow from others."""
        for at in range(self.lacks):
            row = self.rows[at]
            others = [to for to in range(self.many) if row[to] != 0]
            if self.base[at] >= self.many and others:
                if row[others[0]] < 0:
                    self.rows[at] = [-number for number in row]
                self.pivot(at, others[0])

    def prices(self):
        """By how much, multiplied by `whole`, the least cost grows with each end."""
        told = self.rows[self.costs][self.many:-1]
        return [number if end < 0 else -number for number, end in zip(told, self.ends)]

    def amounts(self):
        """The amounts of the columns, multiplied by `whole`."""
        told = [0 for _ in range(self.many)]
        for to, row in zip(self.base, self.rows):
            if to < self.many:
                told[to] = row[-1]
        return told


def _equation(columns, ends, at):
    """One row of a table, its end turned to be at least 0."""
    sign = -1 if ends[at] < 0 else 1
    lacks = [1 if other == at else 0 for other in range(len(ends))]
    return [*[sign * column[at] for column in columns], *lacks, sign * ends[at]]


def _cleared(row, chosen, to, whole):
    """A row without the amount with this index, by means of the chosen one."""
    lead = chosen[to]
    part = row[to]
    return [(lead * number - part * other) // whole for number, other in zip(row, chosen)]
