"""Cones: the turns that ties and pawls allow, given by these rows or by ways to turn.

Rows and ways are dictionaries from wheels to integers without a common divisor; zeros are
left out.
"""

from math import gcd, lcm

from pawlhall.rows import eliminated, shortened, summed, without
from pawlhall.ways import Ways, bent, negated, sum_on


def rows_of(parts):
    """Return the rows of the ties and the rows of the pawls of these parts."""
    ties = [shortened(part.weights) for part in parts if not part.is_pawl]
    pawls = [shortened(part.weights) for part in parts if part.is_pawl]
    return ties, pawls


def echelon(wheels, ties):
    """Return the reduced echelon form of the ties, a dictionary from leads to rows in order."""
    rows = _solved(wheels, ties)
    places = {name: at for at, name in enumerate(wheels)}
    for name in reversed(wheels):
        if name in rows:
            # A wheel is a lead only if no wheel before it can be solved for instead.
            before = [key for key in rows[name] if places[key] < places[name]]
            if before:
                rows = _exchanged(rows, name, before[0])
    return {name: rows[name] for name in wheels if name in rows}


def bounds(wheels, ties, pawls):
    """Return all ties that hold, in echelon form, and the pawls that click in some turns.

    The pawls are freed of the leads of the ties.
    """
    rows = echelon(wheels, ties)
    pawls = _freed(pawls, rows)
    stuck = _never_clicking(pawls)
    if stuck:
        rows = echelon(wheels, list(rows.values()) + [pawls[number] for number in stuck])
        others = [pawl for number, pawl in enumerate(pawls) if number not in stuck]
        pawls = _freed(others, rows)
    return rows, pawls


def smallest(wheels, ties, pawls):
    """Return the ties and the pawls of the smallest form, as tuples of tuples of integers."""
    rows, others = bounds(wheels, ties, pawls)
    return _listed(wheels, rows, _needed(others))


def shadow(hidden, ties, pawls):
    """Return ties and pawls without the hidden wheels that allow the others the same turns."""
    ties, pawls, left = _without_bound(hidden, ties, pawls)
    return ties, _pawls_without(left, pawls) if left else pawls


def held(wheels, hidden, ties, pawls):
    """Return the ties and the pawls of the smallest form of the torques that are held.

    These are torques at the wheels, while the hidden wheels have none.
    """
    ties, pawls, left = _without_bound(hidden, ties, pawls)
    lines, rays = generators([*wheels, *left], ties, pawls)
    # No torques that are held work on a line, and none work forward on a ray.
    if left:
        lines = [_among(wheels, line) for line in lines]
        rays = [_among(wheels, ray) for ray in rays]
        return smallest(wheels, lines, [negated(ray) for ray in rays])
    rows = echelon(wheels, lines)
    return _listed(wheels, rows, _freed([negated(ray) for ray in rays], rows))


def generators(wheels, ties, pawls):
    """Return lines and rays: all turns are sums of multiples of lines and of rays.

    The multiples of rays are at least 0, and no ray and no line can be left out.
    """
    rows = echelon(wheels, ties)
    lines = [{name: 1} for name in wheels if name not in rows]
    # Beside each ray, the bits of the pawls that do not click in it.
    rays = []
    for number, pawl in enumerate(pawls):
        bit = 1 << number
        row = without(pawl, list(rows.items()))
        choices = [way for way in lines if sum_on(way, row) != 0]
        if choices:
            way = min(choices, key=len)
            own = way if sum_on(way, row) > 0 else negated(way)
            lines.remove(way)
            lines = [bent(other, own, row) for other in lines]
            rays = [(bits | bit, bent(ray, own, row)) for bits, ray in rays]
            rays.append((bit - 1, own))
        else:
            rays = _cut(rays, row, bit)
    return [_completed(line, rows) for line in lines], [_completed(ray, rows) for _, ray in rays]


def _without_bound(hidden, ties, pawls):
    """Return ties and pawls without the hidden wheels that ties bind, and the other hidden ones."""
    _, ties, pawls = eliminated(dict(enumerate(ties)), dict(enumerate(pawls)), hidden)
    left = [name for name in hidden if any([name in pawls[number] for number in pawls])]
    return list(ties.values()), list(pawls.values()), left


def _solved(wheels, ties):
    """Return a dictionary from wheels to ties that have one of these wheels each."""
    numbered = {number: shortened(tie) for number, tie in enumerate(ties)}
    steps, _, _ = eliminated(numbered, {}, wheels)
    rows = {}
    for wheel, tie in reversed(steps):
        rows[wheel] = without(tie, list(rows.items()))
    return rows


def _exchanged(rows, name, other):
    """Return the rows with the row of this wheel solved for the other one."""
    row = rows[name] if rows[name][other] > 0 else negated(rows[name])
    found = {other: row}
    for key in rows:
        if key != name:
            found[key] = without(rows[key], [(other, row)])
    return found


def _completed(way, rows):
    """Return a multiple of the way in which the leads turn, too, as the rows demand."""
    sums = {lead: sum_on(way, rows[lead]) for lead in rows}
    many = 1
    for lead in rows:
        many = lcm(many, rows[lead][lead] // gcd(rows[lead][lead], sums[lead]))
    turns = {name: many * way[name] for name in way}
    for lead in rows:
        turns[lead] = -sums[lead] * many // rows[lead][lead]
    return shortened(turns)


def _cut(rays, pawl, bit):
    """Return the rays of the turns that satisfy this pawl, too."""
    found = []
    for bits, ray in rays:
        amount = sum_on(ray, pawl)
        if amount >= 0:
            found.append((bits | bit if amount == 0 else bits, ray))
    for bits, ray in rays:
        if sum_on(ray, pawl) > 0:
            for other_bits, other in rays:
                common = bits & other_bits
                if sum_on(other, pawl) < 0 and _many_with(rays, common) == 2:
                    found.append((common | bit, bent(other, ray, pawl)))
    return found


def _many_with(rays, common):
    # Two rays lie on an edge together exactly if no third one stops at the same pawls.
    return len([bits for bits, _ in rays if bits & common == common])


def _freed(pawls, rows):
    found = [without(pawl, list(rows.items())) for pawl in pawls]
    return [pawl for pawl in found if pawl]


def _names_in(pawls):
    names = {}
    for pawl in pawls:
        names.update(pawl)
    return list(names)


def _never_clicking(pawls):
    """Return the ascending list of the numbers of the pawls that no turns make click."""
    ways = Ways(_names_in(pawls), dict(enumerate(pawls)))
    clicking = {}
    for number, pawl in enumerate(pawls):
        if number not in clicking:
            word, way = ways.decide(pawl)
            if word == "drops":
                click = [key for key, other in enumerate(pawls) if sum_on(way, other) > 0]
                clicking.update({key: True for key in click})
    return [number for number in range(len(pawls)) if number not in clicking]


def _needed(pawls):
    """Return the pawls without those that follow from others, one after the other."""
    names = _names_in(pawls)
    needed = dict(enumerate(pawls))
    for number, pawl in enumerate(pawls):
        others = {key: needed[key] for key in needed if key != number}
        word, _ = Ways(names, others).decide(negated(pawl))
        if word == "holds":
            needed = others
    return list(needed.values())


def _pawls_without(hidden, pawls):
    """Return the sums of multiples of pawls in which no hidden wheel is left."""
    # How often each pawl goes in: for each hidden wheel the multiples cancel out.
    names = [str(number) for number in range(len(pawls))]
    ties = []
    for wheel in hidden:
        ties.append({name: pawl[wheel] for name, pawl in zip(names, pawls) if wheel in pawl})
    _, rays = generators(names, ties, [{name: 1} for name in names])
    return [summed(pawls, [ray.get(name, 0) for name in names]) for ray in rays]


def _among(wheels, way):
    return shortened({name: way[name] for name in wheels if name in way})


def _listed(wheels, rows, pawls):
    ties = [tuple([rows[lead].get(name, 0) for name in wheels]) for lead in rows]
    listed = [tuple([pawl.get(name, 0) for name in wheels]) for pawl in pawls]
    return tuple(ties), tuple(sorted(listed))
