"""What is right about smallest forms, by sums and products of fractions.

A form is right for a hall if its rows have the shape of [16], if forces of the hall show that
all possible outer turns satisfy them, and if motions show that all turns that satisfy them
are possible.
"""

import right
import spaces
from pawlhall.loads import verdict
from pawlhall.parts import Differential
from pawlhall.wishes import driven


def loads_against(form):
    """Loads that the form holds: those that show its ties in both directions, and its pawls."""
    rows = [[-number for number in row] for row in (*form.ties, *form.pawls)]
    rows += [list(row) for row in form.ties]
    return [{name: (number, 1) for name, number in zip(form.wheels, row)} for row in rows]


def ways_of(form):
    """Outer turns that span what the form allows: lines in both directions, and rays."""
    lines, rays = spaces.generators(form.ties, form.pawls, len(form.wheels))
    ways = lines + [[-number for number in line] for line in lines] + rays
    return [[right.written(number) for number in way] for way in ways]


def fault(hall, outer, form):
    """What is wrong about a form as the smallest one of a hall for these outer wheels."""
    if form.wheels != tuple(outer) or type(form.wheels) is not tuple:
        return "other wheels"
    if type(form.ties) is not tuple or type(form.pawls) is not tuple:
        return "no tuples"
    if form.text != written(form.wheels, form.ties, form.pawls):
        return "another text"
    if not spaces.is_smallest(form.ties, form.pawls, len(outer)):
        return "not the smallest rows"
    for load in loads_against(form):
        word, forces = verdict(hall, load)
        if word != "holds" or not right.balances(hall, load, forces):
            return f"forbids too much: {load}"
    for way in ways_of(form):
        wishes = dict(zip(outer, way))
        told = driven(hall, wishes)
        if told[0] != "runs" or not right.grants(hall, wishes, told[1]):
            return f"allows too much: {wishes}"
    return None


def written(wheels, ties, pawls):
    items = [" ".join(["form", *wheels])]
    items += [" ".join(["tie", *map(str, row)]) for row in ties]
    items += [" ".join(["pawl", *map(str, row)]) for row in pawls]
    return "; ".join(items)


def differentials(parts):
    return sum(1 for part in parts if type(part) is Differential)


def differentials_for(form):
    """How many differentials the rows of the form take."""
    many = [sum(1 for number in row if number) for row in (*form.ties, *form.pawls)]
    return sum(max(0, one - 2) for one in many)
