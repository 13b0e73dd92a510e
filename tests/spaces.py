"""Ties and pawls worked out in the plainest way: rows of fractions and all subsets of pawls.

Nothing of this calls a function of the package. It is slow, and made for few pawls only.
"""

from fractions import Fraction
from itertools import combinations
from math import gcd, lcm


def rows_of(parts, wheels):
    """The rows of the ties and the rows of the pawls of the parts, over these wheels."""
    ties, pawls = [], []
    for part in parts:
        row = [part.weights.get(name, 0) for name in wheels]
        (pawls if part.is_pawl else ties).append(row)
    return ties, pawls


def of_hall(hall):
    """Lines and rays of the motions of a hall."""
    return generators(*rows_of(hall.parts, hall.wheels), len(hall.wheels))


def dot(row, other):
    return sum(one * two for one, two in zip(row, other))


def reduced(rows, many):
    """The rows in reduced echelon form with leads 1, as a dictionary from leads to rows."""
    rows = [[Fraction(number) for number in row] for row in rows]
    leads = {}
    for column in range(many):
        row = next((one for one in rows if one[column]), None)
        if row is None:
            continue
        rows.remove(row)
        row = [number / row[column] for number in row]
        rows = [[a - one[column] * b for a, b in zip(one, row)] for one in rows]
        leads = {
            lead: [a - one[column] * b for a, b in zip(one, row)] for lead, one in leads.items()
        }
        leads[column] = row
    return leads


def rank(rows, many):
    return len(reduced(rows, many))


def null_space(rows, many):
    """Rows that span all turns on which these rows have the sum 0."""
    leads = reduced(rows, many)
    found = []
    for free in range(many):
        if free not in leads:
            way = [Fraction(0)] * many
            way[free] = Fraction(1)
            for lead, row in leads.items():
                way[lead] = -row[free]
            found.append(way)
    return found


def generators(ties, pawls, many):
    """Lines and rays of the turns that satisfy ties and pawls, found by trying all subsets."""
    lines = null_space([*ties, *pawls], many)
    # Turns that have nothing of the lines in them: each ray has one such turn.
    flat = [*ties, *lines]
    rays = []
    for size in range(len(pawls) + 1):
        for chosen in combinations(pawls, size):
            space = null_space([*flat, *chosen], many)
            if len(space) == 1:
                for sign in (1, -1):
                    ray = primitive([sign * number for number in space[0]])
                    if all(dot(pawl, ray) >= 0 for pawl in pawls) and ray not in rays:
                        rays.append(ray)
    return lines, rays


def primitive(row):
    """The multiple of the row by a positive number that has integers without common divisor."""
    row = [Fraction(number) for number in row]
    bottom = lcm(*[number.denominator for number in row])
    row = [int(number * bottom) for number in row]
    divisor = gcd(*row)
    return tuple(number // divisor if divisor else 0 for number in row)


def is_smallest(ties, pawls, many):
    """Whether the rows have all that [16] says of the rows of a smallest form."""
    rows = [*ties, *pawls]
    if any(type(row) is not tuple or len(row) != many for row in rows):
        return False
    if any(type(number) is not int for row in rows for number in row):
        return False
    if any(gcd(*row) != 1 for row in rows):
        return False
    leads = [next(at for at in range(many) if row[at]) for row in ties]
    if any(one >= other for one, other in zip(leads, leads[1:])):
        return False
    if any(row[lead] <= 0 for row, lead in zip(ties, leads)):
        return False
    for lead in leads:
        if sum(1 for row in rows if row[lead]) != 1:
            return False
    if any(one >= other for one, other in zip(pawls, pawls[1:])):
        return False
    return all_needed(ties, pawls, many)


def all_needed(ties, pawls, many):
    """Whether no pawl follows from the rest, and each of them clicks in some turns."""
    lines, rays = generators(ties, pawls, many)
    for at, pawl in enumerate(pawls):
        if not any(dot(pawl, ray) > 0 for ray in rays):
            return False
        lines, more = generators(ties, [*pawls[:at], *pawls[at + 1 :]], many)
        if not any(dot(pawl, way) for way in lines) and all(dot(pawl, ray) >= 0 for ray in more):
            return False
    return True
