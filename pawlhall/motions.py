"""Motions: turns that satisfy every part, and the work of loads on them."""

from math import lcm

from pawlhall.checks import is_amounts
from pawlhall.errors import NoTurns
from pawlhall.numbers import product, total


def broken(hall, turns):
    """Return None if the turns are a motion, else the number of the first part against it."""
    if not _is_turns(hall, turns):
        raise NoTurns(turns)
    for number, part in enumerate(hall.parts):
        if not _satisfied(part, turns):
            return number
    return None


def home_after(turns):
    """Return the smallest number of repetitions after which every turn is whole."""
    many = 1
    for name in turns:
        many = lcm(many, turns[name][1])
    return many


def work(load, turns):
    """Return the sum of the products of torque and turn."""
    amounts = [product(load[name], turns[name]) for name in load if name in turns]
    return total(*amounts)


def is_motion(hall, value):
    """Whether the value, which may be anything, is a motion of the hall."""
    return _is_turns(hall, value) and broken(hall, value) is None


def part_sum(part, turns):
    """Return the sum that the part speaks of, as a fraction."""
    return work(as_load(part), turns)


def as_load(part):
    """Return the load whose work is the sum of the part."""
    weights = part.weights
    return {name: (weights[name], 1) for name in weights}


def _is_turns(hall, value):
    wheels = hall.wheels
    # As all keys are wheels, as many keys as wheels are all of them.
    return is_amounts(value, wheels) and len(value) == len(wheels)


def _satisfied(part, turns):
    top, _ = part_sum(part, turns)
    return top >= 0 if part.is_pawl else top == 0
