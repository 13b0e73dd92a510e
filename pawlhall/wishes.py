"""Wishes: motions with given turns of some wheels, and how far another wheel can turn then."""

from pawlhall.checks import check_wheels, is_amounts, is_fraction
from pawlhall.errors import NoWishes
from pawlhall.loads import is_balance
from pawlhall.motions import is_motion, work
from pawlhall.numbers import fraction, product, total
from pawlhall.solver import Solver

# Stands for the number 1 among the wheels: a wish is a tie of its wheel to this one.
ONE = "1"


def driven(hall, wishes):
    """Return ("runs", motion) or ("stuck", load, forces)."""
    check_wishes(hall, wishes)
    word, found = _solver_of(hall, wishes).decide({ONE: (1, 1)})
    if word == "holds":
        return _stuck(hall, wishes, found)
    return "runs", _granting(hall, found)


def drives(hall, wishes, told):
    """Whether told is a right answer of driven."""
    check_wishes(hall, wishes)
    if not isinstance(told, tuple) or len(told) not in (2, 3):
        return False
    if len(told) == 3:
        return _is_stuck(hall, wishes, told)
    word, motion = told
    return word == "runs" and _is_granting(hall, wishes, motion)


def most(hall, wishes, wheel, *, backward=False):
    """Return ("most", value, motion, load, forces), or ("endless", motion, way), or as driven."""
    check_wishes(hall, wishes)
    check_wheels([wheel], hall.wheels)
    sign = -1 if backward else 1
    solver = _solver_of(hall, wishes)
    word, found = solver.decide({ONE: (1, 1)})
    if word == "holds":
        return _stuck(hall, wishes, found)
    # Each motion that grants the wishes bounds the value from below. While there is a greater
    # one, the load drops: in a motion that reaches more, or in one that does so without end.
    while word == "drops" and found[ONE] != (0, 1):
        motion = _granting(hall, found)
        value = product((sign, 1), motion[wheel])
        word, found = solver.decide({wheel: (sign, 1), ONE: product((-1, 1), value)})
    if word == "drops":
        return "endless", motion, {name: found[name] for name in hall.wheels}
    load = _wish_forces(hall, wishes, found)
    load = {name: product((-1, 1), load[name]) for name in load}
    return "most", value, motion, load, found[: len(hall)]


def most_shown(hall, wishes, wheel, told, *, backward=False):
    """Whether told is a right answer of most."""
    check_wishes(hall, wishes)
    check_wheels([wheel], hall.wheels)
    if not isinstance(told, tuple) or len(told) not in (3, 5):
        return False
    sign = -1 if backward else 1
    if len(told) == 5:
        return _is_most(hall, wishes, wheel, told, sign)
    return _is_stuck(hall, wishes, told) or _is_endless(hall, wishes, wheel, told, sign)


def settled(hall, wishes):
    """Return the turns that are the same in all motions that grant the wishes, None if none does."""
    check_wishes(hall, wishes)
    solver = _solver_of(hall, wishes)
    word, found = solver.decide({ONE: (1, 1)})
    if word == "holds":
        return None
    motion = _granting(hall, found)
    return {name: motion[name] for name in motion if _is_settled(solver, name, motion[name])}


def check_wishes(hall, wishes):
    """Raise NoWishes if the value, which may be anything, is no wishes of the hall."""
    if not is_amounts(wishes, hall.wheels):
        raise NoWishes(wishes)


def wish_row(names, wish):
    """Return the row of the tie that the turns of these names have the wish as their sum."""
    top, bottom = wish
    row = {name: bottom for name in names}
    return {**row, ONE: -top} if top != 0 else row


def _solver_of(hall, wishes):
    """Return a solver for the parts, a tie for each wish, and a pawl: ONE is at least 0.

    A motion of it in which ONE turns forward is a multiple of a motion that grants the wishes.
    """
    wheels, parts = hall.wheels, hall.parts
    rows = [part.weights for part in parts]
    pawls = [part.is_pawl for part in parts]
    for name in wheels:
        if name in wishes:
            rows.append(wish_row([name], wishes[name]))
            pawls.append(False)
    return Solver([*wheels, ONE], [*rows, {ONE: 1}], [*pawls, True])


def _granting(hall, found):
    top, bottom = found[ONE]
    once = fraction(bottom, top)
    return {name: product(found[name], once) for name in hall.wheels}


def _wish_forces(hall, wishes, found):
    """Return what the ties of the wishes contribute at their wheels."""
    wished = [name for name in hall.wheels if name in wishes]
    forces = found[len(hall) : len(hall) + len(wished)]
    return {name: product(force, (wishes[name][1], 1)) for name, force in zip(wished, forces)}


def _stuck(hall, wishes, found):
    return "stuck", _wish_forces(hall, wishes, found), found[: len(hall)]


def _is_settled(solver, name, turn):
    ahead, _ = solver.decide({name: (1, 1), ONE: product((-1, 1), turn)})
    back, _ = solver.decide({name: (-1, 1), ONE: turn})
    return ahead == "holds" and back == "holds"


def _is_granting(hall, wishes, value):
    return is_motion(hall, value) and all([value[name] == wishes[name] for name in wishes])


def _is_stuck(hall, wishes, told):
    word, load, forces = told
    if word != "stuck" or not is_amounts(load, wishes) or work(load, wishes)[0] <= 0:
        return False
    return is_balance(hall, load, forces)


def _is_endless(hall, wishes, wheel, told, sign):
    word, motion, way = told
    if word != "endless" or not _is_granting(hall, wishes, motion) or not is_motion(hall, way):
        return False
    return way[wheel][0] * sign > 0 and all([way[name] == (0, 1) for name in wishes])


def _is_most(hall, wishes, wheel, told, sign):
    word, value, motion, load, forces = told
    if word != "most" or not is_fraction(value) or not _is_granting(hall, wishes, motion):
        return False
    if motion[wheel] != product((sign, 1), value):
        return False
    if not is_amounts(load, wishes) or work(load, wishes) != value:
        return False
    less = {name: product((-1, 1), load[name]) for name in load}
    less[wheel] = total(less.get(wheel, (0, 1)), (sign, 1))
    return is_balance(hall, less, forces)
