"""Consoles: programs under names, asked and changed by lines of text."""

from fallranks.bounds import bound
from fallranks.errors import InvalidText, NothingToUndo, TooMany
from fallranks.histories import History
from fallranks.keeping import unkept
from fallranks.levels import fewest, left, levels
from fallranks.programs import Program
from fallranks.values import are_integers, is_name, is_numeral
from fallranks.walking import rounds

NO_LINE = "no such line"
NO_PROGRAM = "no such program"
NO_STATE = "no state"


def _tell_ranks(program):
    """The answer to a line with the word `ranks`."""
    many = fewest(program)
    return "no row" if many is None else str(many)


def _tell_levels(program):
    """The answer to a line with the word `levels`."""
    return "; ".join([_words_of(level) for level in levels(program)]) or "none"


def _tell_left(program):
    """The answer to a line with the word `left`."""
    return _words_of(left(program)) or "none"


def _tell_kept(program):
    """The answer to a line with the word `kept`."""
    return "no" if unkept(program) else "yes"


def _tell_bound(program, place, point):
    """The answer to a line with the word `bound`."""
    amount = bound(program, place, point)
    if amount is None:
        return "no bound"
    if amount == "endless":
        return "endless"
    return str(amount[0]) if amount[1] == 1 else f"{amount[0]}/{amount[1]}"


def _tell_rounds(program, place, point):
    """The answer to a line with the word `rounds`."""
    try:
        return str(rounds(program, place, point))
    except TooMany:
        return "too many"


def _words_of(indexes):
    """The indexes with single spaces between."""
    return " ".join([str(index) for index in indexes])


PROGRAM_WORDS = {"ranks": _tell_ranks, "levels": _tell_levels, "left": _tell_left, "kept": _tell_kept}
STATE_WORDS = {"bound": _tell_bound, "rounds": _tell_rounds}


class Console:
    """Answers lines. Each state of its history is a dict of the programs by their names, which is never changed."""

    def __init__(self):
        self._history = History({})

    def do(self, line):
        """Does what the line says, and returns the answer."""
        if line == "undo":
            return self._undo()
        word, _, rest = line.partition(" ")
        if word == "program":
            return self._put(rest)
        if word == "drop":
            return self._drop(rest)
        if word in PROGRAM_WORDS:
            return self._tell_of_program(word, rest)
        if word in STATE_WORDS:
            return self._tell_of_state(word, rest)
        return NO_LINE

    @property
    def names(self):
        """The names, ascending."""
        return tuple(sorted(list(self._history.present())))

    def _undo(self):
        """Takes back the last putting or dropping."""
        try:
            self._history.back()
        except NothingToUndo:
            return "nothing"
        return "undone"

    def _put(self, rest):
        """Puts a program under a name."""
        name, _, lines = rest.partition(" ")
        if not name or not lines:
            return NO_LINE
        if not is_name(name):
            return "no name"
        # A newline would be read as the end of a line of the program, which ` / ` alone is here.
        if "\n" in lines:
            return "no program"
        try:
            program = Program.read(lines.replace(" / ", "\n"))
        except InvalidText:
            return "no program"
        self._history.change({**self._history.present(), name: program})
        return "put"

    def _drop(self, rest):
        """Takes a program away."""
        if not _is_word(rest):
            return NO_LINE
        programs = self._history.present()
        if rest not in programs:
            return NO_PROGRAM
        self._history.change({name: programs[name] for name in programs if name != rest})
        return "dropped"

    def _tell_of_program(self, word, rest):
        """Answers a line of a word and the name of a program."""
        if not _is_word(rest):
            return NO_LINE
        programs = self._history.present()
        if rest not in programs:
            return NO_PROGRAM
        tell = PROGRAM_WORDS[word]
        return tell(programs[rest])

    def _tell_of_state(self, word, rest):
        """Answers a line of a word, the name of a program, a place, and the numbers of a point."""
        name, _, state = rest.partition(" ")
        place, _, numbers = state.partition(" ")
        numerals = numbers.split(" ")
        if not name or not place or not all([is_numeral(numeral) for numeral in numerals]):
            return NO_LINE
        programs = self._history.present()
        if name not in programs:
            return NO_PROGRAM
        program = programs[name]
        point = tuple([int(numeral) for numeral in numerals])
        if place not in program.places or not are_integers(point, len(program.names)):
            return NO_STATE
        tell = STATE_WORDS[word]
        return tell(program, place, point)

    def __eq__(self, other):
        # Each console has a history of its own, so none is equal to another one.
        return isinstance(other, Console) and self._history == other._history


def _is_word(text):
    """Whether this is one or more signs other than the space."""
    return text != "" and " " not in text
