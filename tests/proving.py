"""Another checker, straight from points [12] and [16]; and certificates that are changed a little."""

from fallranks.errors import InvalidText
from fallranks.programs import Program
from tests import oracle


def integer(value, least=None):
    """Whether this is an integer, at least this."""
    return type(value) is int and (least is None or value >= least)


def row(value, many, least=None):
    """Whether this is a tuple of so many integers, at least this each."""
    return type(value) is tuple and len(value) == many and all(integer(number, least) for number in value)


def parts(value, many):
    """Whether this is a tuple with so many parts."""
    return type(value) is tuple and len(value) == many


def times(form, numbers):
    """A form at numbers, the last one for the number by itself."""
    return sum(one * two for one, two in zip(form, numbers))


def accepts(claim, certificate):
    """As `fallranks.checker.accepts`."""
    if type(claim) is not tuple or len(claim) < 2 or type(claim[0]) is not str:
        return False
    try:
        program = Program.read(claim[1])
    except InvalidText:
        return False
    told = claim[2:]
    if claim[0] == "none":
        return told == () and is_bar(program, certificate) and certificate != () and min(high(certificate)) > 0
    if claim[0] in ("ranks", "fewest"):
        if len(told) != 1 or not integer(told[0], 0):
            return False
        return (is_row if claim[0] == "ranks" else are_bars)(program, told[0], certificate)
    if claim[0] not in ("endless", "within") or len(told) != (2 if claim[0] == "endless" else 3):
        return False
    if type(told[0]) is not str or told[0] not in program.places or not row(told[1], len(program.names)):
        return False
    if claim[0] == "endless":
        return goes_round(program, told, certificate)
    if not integer(told[2], 0) or not is_row(program, 1, certificate):
        return False
    d, forms = certificate[0][0]
    return times(forms[program.places.index(told[0])], (*told[1], 1)) < told[2] * d


def high(bar):
    return [part[1] for part in bar]


def are_bars(program, many, bars):
    """Whether these show that there is no row of fewer than so many ranks."""
    if many < 2 or not parts(bars, many - 1) or not all(is_bar(program, bar) for bar in bars):
        return False
    for bar, behind in zip(bars, bars[1:]):
        if not {part[0] for part in behind} <= {part[0] for part in bar if part[1] > 0}:
            return False
    return max(high(bars[-1]), default=0) > 0


def is_bar(program, bar):
    """Whether this is a bar of some open branches."""
    size = len(program.names)
    if type(bar) is not tuple:
        return False
    last = -1
    sums = {(place, k): 0 for place in program.places for k in range(size + 1)}
    for part in bar:
        if not parts(part, 4) or not integer(part[0], last + 1) or part[0] >= len(program) or not integer(part[1], 0):
            return False
        last, w, u, t = part
        if not row(u, size) or not row(t, size):
            return False
        tests = program.all_tests(last)
        if oracle.least(tests, (0,) * (size + 1)) is None:
            return False
        if any(times(test, (*u, w)) < 0 or times(test[:-1], t) < 0 for test in tests):
            return False
        source, target, _, changes = program.branches[last]
        for k in range(size):
            sums[source, k] += u[k] + t[k]
            sums[target, k] -= times(changes[k], (*u, w))
        sums[source, size] += w
        sums[target, size] -= w
    return not any(sums.values())


def is_row(program, many, certificate):
    """Whether this shows that there is a row of so many ranks."""
    size = len(program.names) + 1
    if not parts(certificate, 2) or not parts(certificate[0], many) or not parts(certificate[1], len(program)):
        return False
    for rank in certificate[0]:
        if not parts(rank, 2) or not integer(rank[0], 1) or not parts(rank[1], len(program.places)):
            return False
        if not all(row(form, size) for form in rank[1]):
            return False
    return all(is_paper(program, index, certificate[0], paper) for index, paper in enumerate(certificate[1]))


def is_paper(program, index, ranks, paper):
    """Whether this is a right paper for a branch."""
    tests = program.all_tests(index)
    if parts(paper, 2) and type(paper[0]) is str and paper[0] == "dead":
        if not row(paper[1], len(tests), 0):
            return False
        total = [sum(one * two for one, two in zip(paper[1], column)) for column in zip(*tests)]
        return total != [] and total[-1] < 0 and not any(total[:-1])
    if not parts(paper, 3) or type(paper[0]) is not str or paper[0] != "falls" or not integer(paper[1], 0):
        return False
    if paper[1] >= len(ranks) or not parts(paper[2], paper[1] + 1):
        return False
    source, target, _, changes = program.branches[index]
    for at, pair in enumerate(paper[2]):
        d, forms = ranks[at]
        before = forms[program.places.index(source)]
        behind = oracle.behind(forms[program.places.index(target)], changes)
        less = [one - two for one, two in zip(before, behind)]
        if at == paper[1]:
            less[-1] -= d
        if not parts(pair, 2) or not are_weights(pair[0], tests, before) or not are_weights(pair[1], tests, less):
            return False
    return True


def are_weights(value, tests, form):
    """Whether these are weights for a form."""
    if not parts(value, 3) or not integer(value[0], 1) or not row(value[1], len(tests), 0) or not integer(value[2], 0):
        return False
    for k, number in enumerate(form):
        total = sum(w * test[k] for w, test in zip(value[1], tests)) + (value[2] if k == len(form) - 1 else 0)
        if total != value[0] * number:
            return False
    return True


def goes_round(program, state, certificate):
    """Whether this shows an endless run."""
    if not parts(certificate, 2) or not all(type(part) is tuple for part in certificate) or certificate[1] == ():
        return False
    place, point = state
    begin = None
    for at, index in enumerate(certificate[0] + certificate[1]):
        if at == len(certificate[0]):
            begin = place, point
        if not integer(index, 0) or index >= len(program):
            return False
        source, target, tests, changes = program.branches[index]
        if source != place or any(times(test, (*point, 1)) < 0 for test in tests):
            return False
        place, point = target, tuple(times(change, (*point, 1)) for change in changes)
    return (place, point) == begin


def mutated(source, value):
    """The value with one of its parts, however deep, another one."""
    if isinstance(value, tuple) and value and source.random() < 0.9:
        at = source.randrange(len(value))
        return (*value[:at], mutated(source, value[at]), *value[at + 1:])
    if isinstance(value, tuple):
        return source.choice((list(value), value[:-1], value + value[-1:], (*value, 0), value[::-1], (), None, 0))
    if isinstance(value, int):
        return source.choice((value + 1, value - 1, -value, 0, 1, True, False, value + 10 ** 40, None, (value,), str(value)))
    return source.choice((value + " ", value.upper(), value[:-1], "falls", "dead", "a", "b", "", None, 0, (value,)))
