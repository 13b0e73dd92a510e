"""What counts as an integer, a fraction, a name and amounts of wheels, for values of any kind.

And how texts of halls, boxes and forms are taken apart.
"""

from math import gcd

from pawlhall.errors import NoName, NoText, NoWheel, Twice


def is_int(value):
    """Whether the value is an integer; True and False are none."""
    return isinstance(value, int) and not isinstance(value, bool)


def is_fraction(value):
    """Whether the value is a fraction (top, bottom) in lowest terms."""
    if not isinstance(value, tuple) or len(value) != 2:
        return False
    top, bottom = value
    return is_int(top) and is_int(bottom) and bottom >= 1 and gcd(top, bottom) == 1


def is_name(value):
    """Whether the value is a string of one to eight letters a to z."""
    if not isinstance(value, str) or not 1 <= len(value) <= 8:
        return False
    return all(["a" <= letter <= "z" for letter in value])


def is_amounts(value, wheels):
    """Whether the value is a dictionary from some of the wheels to fractions."""
    if not isinstance(value, dict):
        return False
    return all([name in wheels and is_fraction(value[name]) for name in value])


def check_names(names):
    """Raise NoName with the first value that is not a name."""
    for name in names:
        if not is_name(name):
            raise NoName(name)


def check_distinct(names):
    """Raise Twice with the first name that stands before it, too."""
    for at, name in enumerate(names):
        if name in names[:at]:
            raise Twice(name)


def check_wheels(names, wheels):
    """Raise NoWheel with the first value that is not one of the wheels."""
    for name in names:
        if name not in wheels:
            raise NoWheel(name)


def split_text(text):
    """Return the names behind the first word, and the items behind them; raise NoText."""
    if not isinstance(text, str):
        raise NoText(text)
    first, *items = text.split("; ")
    _, *names = first.split(" ")
    return names, items
