"""The errors of Pawlhall, one class for each kind of failure.

Each error holds the values that it is created with, whatever they are.
"""


class HallError(ValueError):
    """The base of all errors of the package."""


class NoFraction(HallError):
    """A value that is not a fraction, or that no fraction is made of."""

    def __init__(self, value):
        self.value = value


class NoName(HallError):
    """A value that is not a name."""

    def __init__(self, name):
        self.name = name


class Twice(HallError):
    """A name that stands a second time where each may stand only once."""

    def __init__(self, name):
        self.name = name


class NoTeeth(HallError):
    """A value that is not a number of teeth, or not a direction."""

    def __init__(self, value):
        self.value = value


class NoPart(HallError):
    """A value that is not a part, or not the number of a part."""

    def __init__(self, part):
        self.part = part


class NoWheel(HallError):
    """A value that is not the name of a wheel of the hall."""

    def __init__(self, name):
        self.name = name


class NoTurns(HallError):
    """A value that is not turns, or not a motion, where these are needed."""

    def __init__(self, turns):
        self.turns = turns


class NoLoad(HallError):
    """A value that is not a load of the hall."""

    def __init__(self, load):
        self.load = load


class NoWishes(HallError):
    """A value that is not wishes of the hall."""

    def __init__(self, wishes):
        self.wishes = wishes


class NoForces(HallError):
    """A value that is not a list of fractions."""

    def __init__(self, forces):
        self.forces = forces


class NoLever(HallError):
    """A value that is not the name of a lever position of the box."""

    def __init__(self, name):
        self.name = name


class NoText(HallError):
    """A value that is not the text of anything."""

    def __init__(self, value):
        self.value = value


class Stuck(HallError):
    """No motion grants what was wished; load and forces show it."""

    def __init__(self, load, forces):
        self.load = load
        self.forces = forces


class Loose(HallError):
    """These wheels may turn by one amount or by another one."""

    def __init__(self, names):
        self.names = names


class NothingToUndo(HallError):
    """No turn is left that could be taken back."""
