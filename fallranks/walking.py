"""Walks: branches that are taken one behind another, and how many of them can be."""

from fallranks.errors import InvalidWalk, Stuck, TooMany
from fallranks.limits import MOST_STATES
from fallranks.programs import check_index, check_place, check_point, check_program
from fallranks.values import is_index, value_at


def can_take(program, index, place, point):
    """Whether this branch can be taken in this state."""
    check_program(program)
    check_index(program, index)
    check_place(program, place)
    check_point(program, point)
    return fits(program.branches[index], place, point)


def take(program, index, point):
    """The point behind this branch, taken at its source at this point."""
    check_program(program)
    check_index(program, index)
    check_point(program, point)
    branch = program.branches[index]
    for at, test in enumerate(branch[2]):
        if value_at(test, point) < 0:
            raise Stuck(at)
    return state_behind(branch, point)[1]


def walk(program, point, walk):
    """The state behind these branches, taken one behind another from the source of the first one."""
    check_program(program)
    check_point(program, point)
    _check_walk(program, walk)
    place = program.branches[walk[0]][0]
    for at, index in enumerate(walk):
        branch = program.branches[index]
        if not fits(branch, place, point):
            raise Stuck(at)
        place, point = state_behind(branch, point)
    return place, point


def rounds(program, place, point):
    """The number of branches of a longest run from this state, or "endless"."""
    check_program(program)
    check_place(program, place)
    check_point(program, point)
    start = (place, point)
    return longest_runs(ways_from(program, start)).get(start, "endless")


def _check_walk(program, walk):
    """Raises InvalidWalk for what is no row of branches, each from where the one before it leads."""
    if not isinstance(walk, tuple) or not walk:
        raise InvalidWalk(None)
    for at, index in enumerate(walk):
        if not is_index(index, len(program)):
            raise InvalidWalk(at)
        if at > 0 and program.branches[index][0] != program.branches[walk[at - 1]][1]:
            raise InvalidWalk(at)


def fits(branch, place, point):
    """Whether a branch can be taken in this state."""
    return branch[0] == place and all([value_at(test, point) >= 0 for test in branch[2]])


def state_behind(branch, point):
    """The state behind a branch that is taken at this point."""
    return branch[1], tuple([value_at(change, point) for change in branch[3]])


def ways_from(program, start):
    """For each state that can be come to, the states behind the branches that can be taken in it."""
    ways = {}
    found = {start: True}
    waiting = [start]
    while waiting:
        state = waiting.pop()
        place, point = state
        further = [state_behind(branch, point) for branch in program.branches if fits(branch, place, point)]
        ways[state] = further
        for other in further:
            if other not in found:
                found[other] = True
                waiting.append(other)
        if len(found) > MOST_STATES:
            raise TooMany(MOST_STATES)
    return ways


def longest_runs(ways):
    """For each state from which all runs end, the number of branches of a longest one."""
    before = {state: [] for state in ways}
    for state, further in ways.items():
        for other in further:
            before[other].append(state)
    unknown = {state: len(further) for state, further in ways.items()}
    known = [state for state in ways if not ways[state]]
    longest = {}
    while known:
        state = known.pop()
        longest[state] = max([longest[other] + 1 for other in ways[state]], default=0)
        for other in before[state]:
            unknown[other] = unknown[other] - 1
            if unknown[other] == 0:
                known.append(other)
    return longest
