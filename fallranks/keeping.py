"""Keeping: which sayings are not kept by which branches, and which tests are needless."""

from fallranks.least import arrows, least_at
from fallranks.levels import open_arrows
from fallranks.programs import check_program
from fallranks.ranks import is_enough, moved


def unkept(program):
    """The pairs (branch, saying) of indexes such that the saying does not hold behind the branch for some point."""
    check_program(program)
    found = open_arrows(program)
    pairs = []
    for index in found:
        _, target, _, changes = program.branches[index]
        for at, (place, form) in enumerate(program.sayings):
            if place == target and not is_enough(least_at(found[index], moved(form, changes)), 0):
                pairs.append((index, at))
    return tuple(pairs)


def needless(program):
    """The pairs (branch, test) of indexes such that the test of an open branch follows from the others of all tests."""
    check_program(program)
    pairs = []
    for index in open_arrows(program):
        for at in range(len(program.branches[index][2])):
            if _follows(program.all_tests(index), at, len(program.names)):
                pairs.append((index, at))
    return tuple(pairs)


def _follows(tests, at, many):
    """Whether one of these tests, for so many variables, holds wherever the others do; they hold somewhere."""
    others = tests[:at] + tests[at + 1:]
    return is_enough(least_at(arrows(others, many), tests[at]), 0)
