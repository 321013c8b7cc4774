"""The errors of the package: each stands under Refused alone, and keeps what it was made from."""


class Refused(ValueError):
    """What is refused; `what` tells which part of it, and `name` by which class."""

    def __init__(self, what):
        ValueError.__init__(self, what)
        self.what = what
        self.name = self.__class__.__name__


class BadGround(Refused):
    """For a thing that is no ground."""


class BadProgram(Refused):
    """For a program with a statement that is none."""


class TooMany(Refused):
    """For more of something than may be."""


class BadPuts(Refused):
    """For pairs of exits and bodies that cannot be put."""


class BadBook(Refused):
    """For a thing that is no book."""


class BadLaw(Refused):
    """For a thing that is no law."""


class TooGreat(Refused):
    """For a law with a fact whose count is too great."""


class Unlike(Refused):
    """For two books of unlike grounds."""


class NotOne(Refused):
    """For a ground that has not just one kind of deeds."""


class BadState(Refused):
    """For a thing that is no state."""


class BadCount(Refused):
    """For a thing that is no count."""


class BadRow(Refused):
    """For a row with something in it that cannot stand there."""


class BadStep(Refused):
    """For a path with a step that cannot be done."""


class BadCode(Refused):
    """For a thing that is no code."""


class BadOutcomes(Refused):
    """For outcomes with one that is none."""


class BadText(Refused):
    """For a text with a word that cannot stand there."""


class Twice(Refused):
    """For a name that stands already."""


class BadNumber(Refused):
    """For a number outside of its limits."""


class NoName(Refused):
    """For a name that names nothing."""


class TooDeep(Refused):
    """For something that lies too deep."""


class BadName(Refused):
    """For a thing that is no name."""


class NoLaw(Refused):
    """For a word under which no law stands."""


class NoProgram(Refused):
    """For a word under which no program stands."""


class NothingToUndo(Refused):
    """For a hand that has nothing to undo."""


class NothingToRedo(Refused):
    """For a hand that has nothing to redo."""
