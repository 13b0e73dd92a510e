"""Making: parts that demand of the wheels of a hall what rows of integers demand."""

from pawlhall.parts import Brake, Chain, Differential, Freewheel, Mesh, Ratchet

LETTERS = "abcdefghijklmnopqrstuvwxyz"


class Maker:
    """Puts parts for rows into a hall, and hidden wheels that they need.

    A row is given by its terms, tuples (wheel, number) with numbers that are not 0.
    """

    def __init__(self, hall):
        self._hall = hall
        self._taken = {name: True for name in hall.wheels}
        self._tried = 0

    def put_tie(self, terms):
        """Put parts that demand that the sum of the terms is 0."""
        if len(terms) == 1:
            name, _ = terms[0]
            self._hall.put(Brake(name))
        else:
            one, other = self._two_of(terms)
            self._put_pair(one, other)

    def put_pawl(self, terms):
        """Put parts that demand that the sum of the terms is at least 0."""
        if len(terms) == 1:
            name, number = terms[0]
            self._hall.put(Ratchet(name, backward=number < 0))
            return
        (name, number), (other, other_number) = self._two_of(terms)
        if number + other_number != 0:
            # A freewheel compares turns one to one, so a hidden wheel turns in the ratio.
            hidden = self._added_wheel()
            self._put_pair((hidden, number), (other, other_number))
            other = hidden
        self._hall.put(Freewheel(name, other) if number > 0 else Freewheel(other, name))

    def _put_pair(self, one, other):
        name, number = one
        other_name, other_number = other
        if (number > 0) == (other_number > 0):
            self._hall.put(Mesh(name, other_name, abs(number), abs(other_number)))
        else:
            self._hall.put(Chain(name, other_name, abs(number), abs(other_number)))

    def _two_of(self, terms):
        """Return two terms with the same sum: a hidden wheel stands for the sum of the others."""
        while len(terms) > 2:
            first, second, third, *rest = terms
            # Of three numbers two have the same sign, as a differential needs them.
            if (first[1] > 0) == (third[1] > 0):
                second, third = third, second
            elif (second[1] > 0) == (third[1] > 0):
                first, third = third, first
            terms = [self._put_sum(first, second), third, *rest]
        return terms

    def _put_sum(self, one, other):
        name, number = one
        other_name, other_number = other
        hidden = self._added_wheel()
        self._hall.put(Differential(name, other_name, hidden, abs(number), abs(other_number)))
        return hidden, number + other_number

    def _added_wheel(self):
        """Add a wheel with a name that the hall does not have yet, and return the name."""
        name = _hidden_name(self._tried)
        while name in self._taken:
            self._tried += 1
            name = _hidden_name(self._tried)
        self._taken[name] = True
        self._hall.add_wheel(name)
        return name


def put_rows(hall, wheels, ties, pawls):
    """Put parts for these rows over the wheels into the hall, and hidden wheels behind its own."""
    maker = Maker(hall)
    for row in ties:
        maker.put_tie(_terms(wheels, row))
    for row in pawls:
        maker.put_pawl(_terms(wheels, row))


def _terms(wheels, row):
    return [(name, number) for name, number in zip(wheels, row) if number != 0]


def _hidden_name(number):
    """Return h and the number, written with letters as digits: ha, hb .. hz, hba .."""
    name = LETTERS[number % 26]
    while number >= 26:
        number = number // 26
        name = LETTERS[number % 26] + name
    return "h" + name
