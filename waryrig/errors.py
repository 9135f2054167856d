"""The errors: each is made from one argument, kept in `what`."""


class Refused(ValueError):
    """Stands above all errors of the package."""

    def __init__(self, what):
        self.what = what
        self.kind = self.__class__.__name__


class BadRig(Refused):
    """What is no rig; its what is the place of the first thing wrong in it."""


class BadFault(Refused):
    """What is no fault of the rig."""


class BadSetting(Refused):
    """What is no setting of the rig."""


class BadMove(Refused):
    """What is no move of the rig."""


class BadLot(Refused):
    """What is no lot of faults."""


class BadBook(Refused):
    """What is no book of bars."""


class Twice(Refused):
    """What stands there already."""


class TooMany(Refused):
    """More than are let."""


class NoBar(Refused):
    """A bar that is to be taken away, but is not there."""


class BadWalk(Refused):
    """What is no walk."""


class BadStart(Refused):
    """What is no start."""


class BadCode(Refused):
    """What is no code."""


class BadProgram(Refused):
    """What is no program."""


class TooDeep(Refused):
    """Deeper than is let."""


class NotRight(Refused):
    """A code or a program that does not cure each fault."""


class BadJournal(Refused):
    """What is no journal."""


class BadCuts(Refused):
    """What are no cuts."""


class BadNumber(Refused):
    """A number that is not let there."""


class BadLies(Refused):
    """What are no lies."""


class BadLooks(Refused):
    """What are no looks."""


class Stuck(Refused):
    """A book for which there is no code."""


class Unlike(Refused):
    """Books of unlike rigs."""


class BadGrades(Refused):
    """What are no grades of a book."""


class NotOrder(Refused):
    """What is no order under a fault."""


class BadSign(Refused):
    """A sign that no fault of the knowledge shows here."""


class NotSeen(Refused):
    """A sign that was not said since one came."""


class NoMove(Refused):
    """Settings that no move joins."""


class Barred(Refused):
    """A move that a bar forbids."""


class BadName(Refused):
    """What is no name."""


class BadNamed(Refused):
    """What is no named rig."""


class BadText(Refused):
    """What is no text, or a word that cannot stand at its place."""


class NoName(Refused):
    """A name that nothing has."""


class NothingToUndo(Refused):
    """A hand that has nothing to undo."""


class NothingToRedo(Refused):
    """A hand that has nothing to redo."""


class NoProgram(Refused):
    """A word under which no program is kept."""
