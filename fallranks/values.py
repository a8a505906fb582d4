"""What values are: integers, names, indexes, forms, changes of lines; and what a form is at a point."""

from fallranks.limits import MOST_NUMBER

LONGEST_NAME = 8
LETTERS = "abcdefghijklmnopqrstuvwxyz"
FIGURES = "0123456789"


def is_integer(value):
    """Whether this is an integer: True and False are none."""
    return isinstance(value, int) and not isinstance(value, bool)


def is_index(value, many):
    """Whether this is an index of something that has so many parts."""
    return is_integer(value) and 0 <= value < many


def is_name(value):
    """Whether this is a name."""
    if not isinstance(value, str) or not 1 <= len(value) <= LONGEST_NAME:
        return False
    return value[0] in LETTERS and all([sign in LETTERS + FIGURES for sign in value])


def are_integers(value, many):
    """Whether this is a tuple of so many integers, of any size."""
    return isinstance(value, tuple) and len(value) == many and all([is_integer(number) for number in value])


def is_form(value, many):
    """Whether this is a form for so many variables."""
    return are_integers(value, many + 1) and all([-MOST_NUMBER <= number <= MOST_NUMBER for number in value])


def are_forms(value, many):
    """Whether this is a tuple of forms for so many variables, however many forms these are."""
    return isinstance(value, tuple) and all([is_form(form, many) for form in value])


def is_change(value, many):
    """Whether this is a change of a text with so many lines."""
    if not isinstance(value, tuple) or len(value) != 2:
        return False
    return is_index(value[0], many) and isinstance(value[1], str) and "\n" not in value[1]


def is_numeral(word):
    """Whether this string is an integer as texts write it."""
    figures = word.removeprefix("-")
    if not figures or not all([sign in FIGURES for sign in figures]):
        return False
    return figures[0] != "0" or word == "0"


def weighed(form, numbers):
    """The numbers of a form, multiplied by as many others, as one sum."""
    return sum([one * other for one, other in zip(form, numbers)])


def value_at(form, point):
    """The value of a form at a point."""
    return weighed(form, (*point, 1))
