"""The refusals of the program, each with the fields that tell what was refused."""


class NoBuild(ValueError):
    """What was handed in is no row of a build, or a build that is not there."""

    def __init__(self, name):
        ValueError.__init__(self, "no build")
        self.name = name


class NoSteps(ValueError):
    """Steps of which the nth is none or can't be done; -1 where they are no tuple."""

    def __init__(self, nth):
        ValueError.__init__(self, "no steps")
        self.nth = nth


class NoReport(ValueError):
    """What was handed in is no report of this machine."""

    def __init__(self):
        ValueError.__init__(self)


class Unmarked(ValueError):
    """Too few holders marked what was handed in."""

    def __init__(self):
        ValueError.__init__(self)


class Known(ValueError):
    """A list whose number isn't above that of the last one."""

    def __init__(self, number):
        ValueError.__init__(self, "known already")
        self.number = number


class NoText(ValueError):
    """A text of which a row, or the whole, is none of its kind."""

    def __init__(self, row):
        ValueError.__init__(self, "no text of this kind")
        self.row = row


class NoRow(ValueError):
    """What was said to a desk is none of its rows."""

    def __init__(self, row):
        ValueError.__init__(self, "no row of a desk")
        self.row = row


class NoMachine(KeyError):
    """There is no machine of this name."""

    def __init__(self, name):
        KeyError.__init__(self, "no machine")
        self.name = name


class NoHolder(KeyError):
    """There is no holder of this name."""

    def __init__(self, name):
        KeyError.__init__(self, "no holder")
        self.name = name


class Taken(KeyError):
    """The name is there already."""

    def __init__(self, name):
        KeyError.__init__(self, "taken already")
        self.name = name


class NoPlace(IndexError):
    """A log has no such place."""

    def __init__(self, number):
        IndexError.__init__(self, "no place")
        self.number = number


class NoLetter(IndexError):
    """There is no letter of this number that would do."""

    def __init__(self, number):
        IndexError.__init__(self, "no letter")
        self.number = number


class Off(RuntimeError):
    """The machine is off."""

    def __init__(self):
        RuntimeError.__init__(self)


class NoRoll(RuntimeError):
    """There is no roll-out to stop."""

    def __init__(self):
        RuntimeError.__init__(self)


class NotYet(RuntimeError):
    """There is no house yet."""

    def __init__(self):
        RuntimeError.__init__(self)


class NoWay(LookupError):
    """No history ends with this tag running."""

    def __init__(self, tag):
        LookupError.__init__(self, "no way")
        self.tag = tag


class NoOrder(ArithmeticError):
    """A higher grade would run than on the machine of this name."""

    def __init__(self, name):
        ArithmeticError.__init__(self, "no order")
        self.name = name
