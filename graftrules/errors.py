"""The errors of the package."""


class TreeError(ValueError):
    """The base class of all errors of the package."""


class NoPlace(TreeError):
    """A value is no place of a tree."""

    def __init__(self, place):
        super().__init__("the tree has no such place")
        self.place = place


class BadLot(TreeError):
    """A value is no list of the rules of a lot."""

    def __init__(self, number):
        super().__init__("these rules are no lot")
        self.number = number


class NoRule(TreeError):
    """A value is not the number of a rule."""

    def __init__(self, number):
        super().__init__("no rule has this number")
        self.number = number


class NoStep(TreeError):
    """A value is no step that can be done."""

    def __init__(self, at):
        super().__init__("this step cannot be done")
        self.at = at


class GoesOn(TreeError):
    """A lot does not end."""


class TooLong(TreeError):
    """A way has too many steps to be told."""

    def __init__(self, number):
        super().__init__("there are too many steps")
        self.number = number


class TooLarge(TreeError):
    """The trees that a tree becomes are too large."""

    def __init__(self, nodes):
        super().__init__("the trees become too large")
        self.nodes = nodes


class TooMany(TreeError):
    """There are more things than a limit."""

    def __init__(self, limit):
        super().__init__("there are more than the limit")
        self.limit = limit


class NothingDone(TreeError):
    """There is no deed that could be undone."""


class UnknownMark(TreeError):
    """A value is not the number of a mark."""

    def __init__(self, number):
        super().__init__("no mark has this number")
        self.number = number


class InvalidText(TreeError):
    """A text is not the written form of anything."""

    def __init__(self, at):
        super().__init__("this is no written form")
        self.at = at
