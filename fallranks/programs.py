"""Programs: what makes one, its text, and how a text is read."""

from fallranks.errors import InvalidBranches, InvalidChanges, InvalidIndex, InvalidNames, InvalidPlace, InvalidPoint
from fallranks.errors import InvalidSayings, InvalidText, NotProgram
from fallranks.limits import MOST_BRANCHES, MOST_NUMBER, MOST_PLACES, MOST_SAYINGS, MOST_TESTS, MOST_VARIABLES
from fallranks.values import are_forms, are_integers, is_change, is_form, is_index, is_name, is_numeral


class Program:
    """Variables, sayings about places, and branches between places."""

    def __init__(self, names, sayings, branches):
        _check_names(names)
        _check_sayings(sayings, len(names))
        _check_branches(branches, len(names), sayings)
        self._names = names
        self._sayings = sayings
        self._branches = branches
        self._places = _places_of(sayings, branches)
        self._text = _text_of(names, sayings, branches)

    @classmethod
    def read(cls, text):
        """The program with this text."""
        if not isinstance(text, str):
            raise InvalidText(text)
        names, sayings, branches = _parts_of(text)
        try:
            program = cls(names, sayings, branches)
        except (InvalidNames, InvalidSayings, InvalidBranches):
            raise InvalidText(text) from None
        # The parts were read without looking at order and spaces; a program has just one text.
        if str(program) != text:
            raise InvalidText(text)
        return program

    @property
    def names(self):
        """The variables, as they were passed."""
        return self._names

    @property
    def sayings(self):
        """The sayings, as they were passed."""
        return self._sayings

    @property
    def branches(self):
        """The branches, as they were passed."""
        return self._branches

    @property
    def places(self):
        """The places, in the order of their first standing."""
        return self._places

    @property
    def text(self):
        """The text of the program."""
        return self._text

    def all_tests(self, index):
        """The tests of a branch, and behind them the forms of the sayings at its source."""
        check_index(self, index)
        branch = self._branches[index]
        return branch[2] + tuple([form for place, form in self._sayings if place == branch[0]])

    def changed(self, changes):
        """The program whose text has other lines in the place of some, or some lines less."""
        lines = self._text.split("\n")
        _check_changes(changes, len(lines))
        for at, new in changes:
            lines[at] = new
        # No line of a program is empty: the empty ones are those to be taken out.
        return Program.read("\n".join([line for line in lines if line]))

    def __eq__(self, other):
        return isinstance(other, Program) and self._text == other._text

    def __len__(self):
        return len(self._branches)

    def __str__(self):
        return str(self._text)

    def __repr__(self):
        return f"Program of {len(self._branches)} branches"


def check_program(program):
    """Raises NotProgram for what is no program."""
    if not isinstance(program, Program):
        raise NotProgram(program)


def check_index(program, index):
    """Raises InvalidIndex for what is no index of a branch of the program."""
    if not is_index(index, len(program.branches)):
        raise InvalidIndex(index)


def check_place(program, place):
    """Raises InvalidPlace for what is no place of the program."""
    if not isinstance(place, str) or place not in program.places:
        raise InvalidPlace(place)


def check_point(program, point):
    """Raises InvalidPoint for what is no point of the program."""
    if not are_integers(point, len(program.names)):
        raise InvalidPoint(point)


def _check_names(names):
    """Raises InvalidNames for what is no row of names of variables."""
    if not isinstance(names, tuple) or not names:
        raise InvalidNames(None)
    for at, name in enumerate(names):
        if at >= MOST_VARIABLES or not is_name(name) or name in names[:at]:
            raise InvalidNames(at)


def _check_sayings(sayings, many):
    """Raises InvalidSayings for what is no row of sayings for so many variables."""
    if not isinstance(sayings, tuple):
        raise InvalidSayings(None)
    for at, saying in enumerate(sayings):
        if at >= MOST_SAYINGS or not _is_saying(saying, many):
            raise InvalidSayings(at)


def _check_branches(branches, many, sayings):
    """Raises InvalidBranches for what is no row of branches, behind these sayings."""
    if not isinstance(branches, tuple) or not branches:
        raise InvalidBranches(None)
    for at, branch in enumerate(branches):
        if at >= MOST_BRANCHES or not _is_branch(branch, many):
            raise InvalidBranches(at)
        if len(_places_of(sayings, branches[:at + 1])) > MOST_PLACES:
            raise InvalidBranches(at)


def _check_changes(changes, many):
    """Raises InvalidChanges for what is no row of changes of different lines, of so many."""
    if not isinstance(changes, tuple):
        raise InvalidChanges(None)
    lines = []
    for at, change in enumerate(changes):
        if not is_change(change, many) or change[0] in lines:
            raise InvalidChanges(at)
        lines.append(change[0])


def _is_saying(value, many):
    """Whether this is a saying for so many variables."""
    return isinstance(value, tuple) and len(value) == 2 and is_name(value[0]) and is_form(value[1], many)


def _is_branch(value, many):
    """Whether this is a branch for so many variables."""
    if not isinstance(value, tuple) or len(value) != 4:
        return False
    source, target, tests, changes = value
    if not is_name(source) or not is_name(target):
        return False
    if not are_forms(tests, many) or len(tests) > MOST_TESTS:
        return False
    return are_forms(changes, many) and len(changes) == many


def _places_of(sayings, branches):
    """The places in the order of their first standing."""
    standing = [saying[0] for saying in sayings]
    for branch in branches:
        standing.extend([branch[0], branch[1]])
    return tuple([place for at, place in enumerate(standing) if place not in standing[:at]])


def _text_of(names, sayings, branches):
    """The text of the program with these parts."""
    lines = [" ".join(["vars", *names])]
    for place, form in sayings:
        lines.append(f"say {place} {_words_of(form)}")
    for source, target, tests, changes in branches:
        lines.append(f"branch {source} {target}")
        for test in tests:
            lines.append(f"test {_words_of(test)}")
        lines.append("then " + "; ".join([_words_of(change) for change in changes]))
    return "\n".join(lines)


def _words_of(form):
    """The words for the numbers of a form."""
    return " ".join([str(number) for number in form])


def _parts_of(text):
    """Names, sayings and branches that lines tell; they need not be right, nor be all that the lines tell."""
    names = ()
    sayings = []
    branches = []
    ends = ("", "")
    tests = []
    for line in text.split("\n"):
        word, _, rest = line.partition(" ")
        if word == "vars":
            names = tuple(rest.split(" "))
        elif word == "say":
            place, _, numbers = rest.partition(" ")
            sayings.append((place, _form_of(numbers)))
        elif word == "branch":
            source, _, target = rest.partition(" ")
            ends = (source, target)
            tests = []
        elif word == "test":
            tests.append(_form_of(rest))
        elif word == "then":
            changes = [_form_of(part) for part in rest.split("; ")]
            branches.append((*ends, tuple(tests), tuple(changes)))
    return names, tuple(sayings), tuple(branches)


def _form_of(text):
    """The form with these numbers; the empty tuple, which is no form, if there is a word that is no number."""
    words = text.split(" ")
    # Python refuses to read numbers that are very long; those that no form has are not tried.
    longest = len(str(-MOST_NUMBER))
    if not all([len(word) <= longest and is_numeral(word) for word in words]):
        return ()
    return tuple([int(word) for word in words])
