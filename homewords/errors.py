"""The errors that the package raises."""


class WordsError(ValueError):
    """What all errors of the package are."""


class Unfit(WordsError):
    """What is asked for can't be done with what was handed in."""

    def __init__(self):
        super().__init__("this is not fit for what is asked")


class Barred(WordsError):
    """There is no program: a paper tells why."""

    def __init__(self, paper):
        super().__init__("a paper tells that there is no such program")
        self.paper = paper


class TooMany(WordsError):
    """There are more deeds than the limit."""

    def __init__(self, limit):
        super().__init__("there are more deeds than the limit")
        self.limit = limit
