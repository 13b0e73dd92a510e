"""Rows: sums over the turns of wheels, freed of wheels with the help of the ties.

A row is a dictionary to integers without a common divisor; zeros are left out. Under a
wheel stands its weight in the sum, and under the number of a part how many times the sum
of that part went into the row: {"a": 2, "c": -3, 0: 1, 4: 5} says that 2 a - 3 c is the
sum of part 0 plus 5 times the sum of part 4.
"""

from math import gcd


def shortened(row):
    """Return the row without zeros and without a common divisor."""
    divisor = 0
    for key in row:
        divisor = gcd(divisor, row[key])
        if divisor == 1:
            break
    return {key: row[key] // divisor for key in row if row[key] != 0}


def mixed(row, times, other, amount):
    """Return times the row less amount times the other one, shortened."""
    numbers = {key: times * row[key] for key in row}
    for key in other:
        numbers[key] = numbers.get(key, 0) - amount * other[key]
    return shortened(numbers)


def summed(rows, amounts):
    """Return the sum of the rows, each as often as its amount says, shortened."""
    numbers = {}
    for row, amount in zip(rows, amounts):
        for key in row:
            numbers[key] = numbers.get(key, 0) + amount * row[key]
    return shortened(numbers)


def without(row, steps):
    """Return a positive multiple of the row, plus sums of ties, without the wheels of the steps."""
    for wheel, tie in steps:
        if wheel in row:
            row = mixed(row, tie[wheel], tie, row[wheel])
    return row


def eliminated(ties, pawls, wheels):
    """Solve each tie for one of the wheels; return these steps, the ties left, and the pawls.

    Ties and pawls are dictionaries from numbers of parts to rows. A step is a wheel and a
    tie in which it has a positive number; the wheels of earlier steps are not in the tie.
    No tie that is left has any of the wheels, and no pawl has the wheels of the steps.
    """
    solvable = {name: True for name in wheels}
    steps, left = [], {}
    while ties:
        # Short rows and rare wheels first: this keeps the rows short and the numbers small.
        _, number = min([(len(ties[key]), key) for key in ties])
        step = _step_of(ties[number], ties, pawls, solvable)
        if step is None:
            left[number] = ties[number]
        ties = {key: ties[key] for key in ties if key != number}
        if step is not None:
            steps.append(step)
            ties = {key: without(ties[key], [step]) for key in ties}
            pawls = {key: without(pawls[key], [step]) for key in pawls}
    return steps, left, pawls


def _step_of(tie, ties, pawls, solvable):
    rows = [ties[key] for key in ties] + [pawls[key] for key in pawls]
    choices = [(_many_with(key, rows), key) for key in tie if key in solvable]
    if not choices:
        return None
    _, wheel = min(choices)
    return wheel, tie if tie[wheel] > 0 else {key: -tie[key] for key in tie}


def _many_with(wheel, rows):
    return len([row for row in rows if wheel in row])
