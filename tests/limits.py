"""Programs looked through for whether they are programs at all, within the limits of [B3]."""

from homewords.programs import language_of
from tests.crafted import LANGUAGES


def is_place(value, limit):
    return value.__class__ is int and 0 <= value < limit


def is_deed(n, value):
    if value.__class__ is not tuple or not value or not all(is_place(place, n) for place in value[1:]):
        return False
    many = {"add": 2, "xor": 2, "and": 3, "one": 1}.get(value[0])
    if len(value) - 1 != many or len(set(value[1:])) != many:
        return False
    return value[0] != "and" or value[2] < value[3]


def is_term(n, value, ahead, deep):
    """Whether the value is a term that stands so deep, behind so many others."""
    if value.__class__ is not tuple or len(value) < 2 or deep > 12:
        return False
    kind = value[0]
    if kind == "do":
        return len(value) == 2 and is_deed(n, value[1])
    if kind == "row":
        terms = value[1]
        fits = len(value) == 2 and terms.__class__ is tuple and len(terms) <= 400
        return fits and all(is_term(n, term, ahead, deep + 1) for term in terms)
    if kind == "back":
        return len(value) == 2 and is_term(n, value[1], ahead, deep + 1)
    if kind == "times":
        return len(value) == 3 and is_place(value[2], 10 ** 30 + 1) and is_term(n, value[1], ahead, deep + 1)
    return kind == "part" and len(value) == 2 and is_place(value[1], ahead)


def is_program(n, value):
    if value.__class__ is not tuple or not 1 <= len(value) <= 1000:
        return False
    return all(is_term(n, term, place, 1) for place, term in enumerate(value))


def is_program_of(n, language, value):
    """Whether the value is a program of n and of the language."""
    return is_program(n, value) and LANGUAGES.index(language_of(value)) <= LANGUAGES.index(language)
