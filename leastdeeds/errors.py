"""The refusals, one class for each."""


class DeedError(ValueError):
    """Any refusal of this package."""


class NoRow(DeedError):
    """A row has, at this place, a thing that is no deed's number."""

    def __init__(self, place):
        DeedError.__init__(self, f"no deed's number at place {place}")
        self.place = place


class NoRule(DeedError):
    """The rule of this number is none of the machine, or doesn't hold."""

    def __init__(self, number):
        DeedError.__init__(self, f"no rule that holds: number {number}")
        self.number = number


class NoStep(DeedError):
    """The step at this place of the steps can't be done."""

    def __init__(self, place):
        DeedError.__init__(self, f"no step that can be done at place {place}")
        self.place = place


class NoMachine(DeedError):
    """What was handed in is no machine."""


class TooLong(DeedError):
    """A row has more deeds than it may have."""


class NoWord(DeedError):
    """What was handed in is no beginning of the machine."""


class NoWork(DeedError):
    """What was handed in is no work of the machine."""


class NoBound(DeedError):
    """What was handed in is no bound that may be asked for."""


class TooMany(DeedError):
    """There are more behaviours than are gone through."""


class NoPlace(DeedError):
    """The row has no such place."""


class NoDeed(DeedError):
    """The machine has no deed of this number."""


class Nothing(DeedError):
    """No change stands that could be undone."""


class NoText(DeedError):
    """The text is not one that is read."""


class NoLine(DeedError):
    """The line is not one that the desk answers."""
