"""Texts: fractions, turns and forces as people write them."""

from pawlhall.checks import is_fraction, is_name
from pawlhall.errors import NoForces, NoFraction, NoText, NoTurns
from pawlhall.numbers import fraction

# Written where there is nothing to write.
NOTHING = "-"


def fraction_text(value):
    """Return the text of the fraction."""
    if not is_fraction(value):
        raise NoFraction(value)
    top, bottom = value
    return str(top) if bottom == 1 else f"{top}/{bottom}"


def turns_text(turns):
    """Return the text of a dictionary from names to fractions, in its order."""
    if not isinstance(turns, dict):
        raise NoTurns(turns)
    if not all([is_name(name) and is_fraction(turns[name]) for name in turns]):
        raise NoTurns(turns)
    return ", ".join([f"{name}={fraction_text(turns[name])}" for name in turns]) or NOTHING


def forces_text(forces):
    """Return the text of a list of fractions."""
    if not isinstance(forces, list) or not all([is_fraction(force) for force in forces]):
        raise NoForces(forces)
    return " ".join([fraction_text(force) for force in forces]) or NOTHING


def read_fraction(text):
    """Return the fraction with that text; raise NoText if there is none."""
    value = _fraction_or_none(text) if isinstance(text, str) else None
    if value is None:
        raise NoText(text)
    return value


def read_turns(text):
    """Return the dictionary with that text; raise NoText if there is none."""
    if not isinstance(text, str):
        raise NoText(text)
    turns = {}
    for item in _split(text, ", "):
        name, _, word = item.partition("=")
        value = _fraction_or_none(word)
        if not is_name(name) or name in turns or value is None:
            raise NoText(text)
        turns[name] = value
    return turns


def read_forces(text):
    """Return the list with that text; raise NoText if there is none."""
    if not isinstance(text, str):
        raise NoText(text)
    forces = [_fraction_or_none(word) for word in _split(text, " ")]
    if None in forces:
        raise NoText(text)
    return forces


def _split(text, between):
    return [] if text == NOTHING else text.split(between)


def _fraction_or_none(text):
    top, slash, bottom = text.partition("/")
    if not slash:
        bottom = "1"
    if not top.removeprefix("-").isdecimal() or not bottom.isdecimal() or int(bottom) == 0:
        return None
    value = fraction(int(top), int(bottom))
    # Comparing the texts refuses what int takes and nobody writes, as "01", "-0" or "2/4".
    return value if fraction_text(value) == text else None
