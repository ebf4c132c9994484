"""What is told of programs without doing them."""

from homewords.bounds import MAX_LENGTH
from homewords.errors import TooMany
from homewords.tallies import KINDS, tally_parity, tally_up_to


def length(program):
    """How many deeds the program does; TooMany if more than MAX_LENGTH."""
    many = tally_up_to(program, KINDS, MAX_LENGTH + 1)
    if many > MAX_LENGTH:
        raise TooMany(MAX_LENGTH)
    return many


def language_of(program):
    """The first of "bits", "sums", "all" that has all deeds that are done."""
    if tally_up_to(program, ("one",), 1):
        return "all"
    if tally_up_to(program, ("add",), 1):
        return "sums"
    return "bits"


def sign_parity(program):
    """1 if an odd number of "and" deeds is done, otherwise 0."""
    return tally_parity(program, ("and",))
