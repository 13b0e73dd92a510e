"""Ways: turns sorted by the pawl that alone clicks in them; they tell what drops and what holds.

All turns are sums of multiples of the ways. On a loose way the sums of all pawls are 0.
Each other way is the own way of a pawl: on it the sum of this pawl is positive, and the
sums of the other pawls with own ways are 0. So what a load does on the own ways gives the
forces of their pawls one by one.
"""

from pawlhall.numbers import fraction
from pawlhall.rows import mixed


class Ways:
    """The ways of wheels that no tie binds, for a dictionary from numbers to rows of pawls.

    A way is a dictionary from the wheels that turn to integers without a common divisor.
    """

    def __init__(self, wheels, pawls):
        self._pawls = pawls
        self._loose = [{name: 1} for name in wheels]
        self._own = {}
        for number in pawls:
            choices = [way for way in self._loose if sum_on(way, pawls[number]) != 0]
            # A pawl that stops no loose way can only take over the own way of another one.
            if choices:
                way = min(choices, key=len)
                self._loose.remove(way)
                self._give(number, way)

    def decide(self, load):
        """Return ("drops", way) or ("holds", forces) for a row of torques.

        The load drops in the way, which no pawl stops. The forces are a dictionary from
        numbers of pawls; those that it leaves out are 0.
        """
        for way in self._loose:
            gain = sum_on(way, load)
            if gain != 0:
                return "drops", (way if gain > 0 else negated(way))
        while True:
            number = self._first_gaining(load)
            if number is None:
                return "holds", self._forces(load)
            way = self._own[number]
            other = self._first_stopping(way)
            if other is None:
                return "drops", way
            # Taking the first ones always keeps the search from going in circles (Bland's
            # rule), so it ends with one of the two answers.
            del self._own[number]
            self._give(other, way)

    def _give(self, number, way):
        pawl = self._pawls[number]
        own = way if sum_on(way, pawl) > 0 else negated(way)
        self._loose = [bent(other, own, pawl) for other in self._loose]
        self._own = {key: bent(self._own[key], own, pawl) for key in self._own}
        self._own[number] = own

    def _first_gaining(self, load):
        for number in sorted(self._own):
            if sum_on(self._own[number], load) > 0:
                return number
        return None

    def _first_stopping(self, way):
        for number in sorted(self._pawls):
            if sum_on(way, self._pawls[number]) < 0:
                return number
        return None

    def _forces(self, load):
        forces = {}
        for number in self._own:
            way = self._own[number]
            gain = sum_on(way, load)
            if gain != 0:
                forces[number] = fraction(-gain, sum_on(way, self._pawls[number]))
        return forces


def sum_on(way, row):
    """Return the sum that the row speaks of, on a way."""
    return sum([way[name] * row[name] for name in way if name in row])


def negated(way):
    """Return the way, or the row, with the other sign."""
    return {name: -way[name] for name in way}


def bent(way, own, pawl):
    """Return the way with as much of the own way as brings the sum of the pawl to 0."""
    amount = sum_on(way, pawl)
    return mixed(way, sum_on(own, pawl), own, amount) if amount != 0 else way
