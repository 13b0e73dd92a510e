"""The solver: whether a load drops and in which motion, or holds and by which forces.

It also tells which parts follow from the others.
"""

from pawlhall.motions import home_after
from pawlhall.numbers import fraction, product, total
from pawlhall.rows import eliminated, without
from pawlhall.ways import Ways, negated

# Stands in a row where numbers of parts stand, and is none of them.
LOAD = -1
# Stands in a row where names of wheels stand, and is none of them.
TIE = "the sum of a tie"


def solver_of(parts, wheels):
    """Return the solver for these parts."""
    return Solver(wheels, [part.weights for part in parts], [part.is_pawl for part in parts])


class Solver:
    """Decides about loads where sums with these weights are 0, or at least 0 for pawls.

    One solver decides about several loads faster than one solver for each.
    """

    def __init__(self, wheels, weights, pawls):
        rows = {number: {number: 1, **part} for number, part in enumerate(weights)}
        ties = {number: rows[number] for number in rows if not pawls[number]}
        others = {number: rows[number] for number in rows if pawls[number]}
        self._wheels = list(wheels)
        self._numbers = list(rows)
        self._steps, self._tied, self._pawls = eliminated(ties, others, wheels)
        bound = [wheel for wheel, _ in self._steps]
        self._free = [name for name in wheels if name not in bound]
        self._ways = Ways(self._free, self._pawls)

    def decide(self, load):
        """Return ("drops", motion) or ("holds", forces) for a load."""
        many = home_after(load)
        row = without(_row_of(load, many), self._steps)
        word, found = self._ways.decide(row)
        if word == "drops":
            return word, self._motion(found)
        return word, self._forces(row, found, fraction(1, row[LOAD] * many))

    def follows(self, number):
        """Whether all turns that satisfy the other parts satisfy the part of this number."""
        if number in self._pawls:
            others = {key: self._pawls[key] for key in self._pawls if key != number}
            return _holds(Ways(self._free, others), negated(self._pawls[number]))
        # A tie that is left has lost all wheels: the sums of its parts follow from each other.
        if any([number in self._tied[key] for key in self._tied]):
            return True
        pawls = {}
        for key in self._pawls:
            # With the sum of this tie as one more wheel, that is what the pawl demands.
            row = self._pawls[key]
            pawls[key] = {**row, TIE: -row[number]} if number in row else row
        ways = Ways([*self._free, TIE], pawls)
        return _holds(ways, {TIE: 1}) and _holds(ways, {TIE: -1})

    def _motion(self, way):
        turns = {name: (way.get(name, 0), 1) for name in self._free}
        # The tie of the last step has free wheels beside its own; each tie before it has
        # these and the wheels of later steps.
        for wheel, tie in reversed(self._steps):
            once = fraction(-1, tie[wheel])
            amounts = [product(turns[name], (tie[name], 1)) for name in tie if name in turns]
            turns[wheel] = product(total(*amounts), once)
        return {name: turns[name] for name in self._wheels}

    def _forces(self, row, found, unit):
        forces = []
        for number in self._numbers:
            # The ties that went into the rows of load and pawls have forces, too.
            amounts = [(row.get(number, 0), 1)]
            for pawl in found:
                amounts.append(product(found[pawl], (self._pawls[pawl].get(number, 0), 1)))
            forces.append(product(total(*amounts), unit))
        return forces


def _holds(ways, load):
    word, _ = ways.decide(load)
    return word == "holds"


def _row_of(load, many):
    # LOAD comes first, and its number stays small: so the search for common divisors ends
    # early, however many digits the torques have.
    row = {LOAD: 1}
    for name in load:
        top, bottom = load[name]
        if top != 0:
            row[name] = top * (many // bottom)
    return row
