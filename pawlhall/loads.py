"""Loads and forces: what drops, what holds and by which parts, and who is right about it."""

from pawlhall.checks import check_wheels, is_amounts, is_fraction
from pawlhall.errors import NoLoad
from pawlhall.motions import as_load, is_motion, part_sum, work
from pawlhall.numbers import fraction, product, total
from pawlhall.parts import Brake
from pawlhall.solver import Solver, solver_of


def verdict(hall, load):
    """Return ("drops", motion) or ("holds", forces)."""
    _check_load(hall, load)
    return solver_of(hall.parts, hall.wheels).decide(load)


def tried(hall, *parts, load):
    """Return the verdict of the hall with these parts more."""
    if not parts:
        return verdict(hall, load)
    first, *rest = parts
    with hall.trial() as inner:
        inner.put(first)
        return tried(inner, *rest, load=load)


def bearing(hall, load):
    """Return ("drops", motion), or ("holds", motion, forces) where each pawl clicks or bears."""
    _check_load(hall, load)
    parts = hall.parts
    word, found = solver_of(parts, hall.wheels).decide(load)
    if word == "drops":
        return word, found
    forces = found
    # A motion costs no work exactly if none of the pawls that bear here clicks in it. So
    # the others are asked where these are ties.
    pawls = [part.is_pawl and force[0] == 0 for part, force in zip(parts, forces)]
    solver = Solver(hall.wheels, [part.weights for part in parts], pawls)
    motion = {name: (0, 1) for name in hall.wheels}
    for number, part in enumerate(parts):
        if part.is_pawl and forces[number][0] == 0:
            word, found = solver.decide(as_load(part))
            if word == "drops":
                motion = {name: total(motion[name], found[name]) for name in motion}
            else:
                forces = _bearing_too(parts, forces, number, found)
    return "holds", motion, forces


def held_by(hall, load, wheel):
    """Return with which additional torques at the wheel the hall holds the load."""
    _check_load(hall, load)
    check_wheels([wheel], hall.wheels)
    # A brake has any force: with it the hall holds the load if it does with some torque.
    word, found = solver_of([*hall.parts, Brake(wheel)], hall.wheels).decide(load)
    if word == "drops":
        return "never", found
    solver = solver_of(hall.parts, hall.wheels)
    low, least = _end(solver, load, wheel, -1)
    high, greatest = _end(solver, load, wheel, 1)
    holding = [*least, *greatest]
    if not holding:
        _, found = solver.decide(load)
        holding = [found]
    return "between", low, high, holding


def shows(hall, load, told):
    """Whether told is a right answer of verdict."""
    _check_load(hall, load)
    if not isinstance(told, tuple) or len(told) != 2:
        return False
    word, found = told
    if word == "drops":
        return _drops(hall, load, found)
    return word == "holds" and is_balance(hall, load, found)


def bearing_shown(hall, load, told):
    """Whether told is a right answer of bearing."""
    _check_load(hall, load)
    if not isinstance(told, tuple) or len(told) not in (2, 3):
        return False
    if len(told) == 2:
        word, motion = told
        return word == "drops" and _drops(hall, load, motion)
    word, motion, forces = told
    if word != "holds" or not is_motion(hall, motion) or not is_balance(hall, load, forces):
        return False
    return work(load, motion) == (0, 1) and _click_or_bear(hall, motion, forces)


def held_shown(hall, load, wheel, told):
    """Whether told is a right answer of held_by."""
    _check_load(hall, load)
    check_wheels([wheel], hall.wheels)
    if not isinstance(told, tuple) or len(told) not in (2, 4):
        return False
    if len(told) == 2:
        word, motion = told
        return word == "never" and _drops(hall, load, motion) and motion[wheel] == (0, 1)
    word, low, high, holding = told
    if word != "between" or not _is_end(hall, load, wheel, low, -1):
        return False
    return _is_end(hall, load, wheel, high, 1) and _hold(hall, load, wheel, [low, high], holding)


def is_balance(hall, load, value):
    """Whether the value, which may be anything, is forces of the hall that balance the load."""
    parts = hall.parts
    if not isinstance(value, list) or len(value) != len(parts):
        return False
    if not all([is_fraction(force) for force in value]):
        return False
    if any([part.is_pawl and force[0] < 0 for part, force in zip(parts, value)]):
        return False
    torques = {name: [load.get(name, (0, 1))] for name in hall.wheels}
    for part, force in zip(parts, value):
        weights = part.weights
        for name in weights:
            torques[name].append(product(force, (weights[name], 1)))
    for name in torques:
        amounts = torques[name]
        if total(*amounts) != (0, 1):
            return False
    return True


def _check_load(hall, load):
    if not is_amounts(load, hall.wheels):
        raise NoLoad(load)


def _bearing_too(parts, forces, number, others):
    """Return forces for the same load with which the pawl of this number bears, too.

    The others balance the sum of this pawl, so that a share of both may be added. It is so
    small that no pawl stops bearing.
    """
    share = 1
    for part, force, change in zip(parts, forces, others):
        if part.is_pawl and change[0] < 0:
            share = max(share, -change[0] * force[1] // (change[1] * force[0]) + 1)
    added = list(others)
    added[number] = total(added[number], (1, 1))
    return [
        total(force, product(change, (1, share))) for force, change in zip(forces, added)
    ]


def _end(solver, load, wheel, sign):
    """Return the least (sign -1) or greatest (1) torque with its motion, and a list of its forces.

    If there is no such torque, return the forces that show it, and an empty list.
    """
    word, found = solver.decide({wheel: (sign, 1)})
    if word == "holds":
        return found, []
    # Each motion with this turn of the wheel bounds the torque. While its bound does not
    # hold the load, the load drops in a motion with a closer bound.
    while word == "drops":
        top, bottom = found[wheel]
        once = fraction(sign * bottom, top)
        motion = {name: product(found[name], once) for name in found}
        value = product((-sign, 1), work(load, motion))
        word, found = solver.decide(_with_torque(load, wheel, value))
    return (value, motion), [found]


def _with_torque(load, wheel, value):
    return {**load, wheel: total(load.get(wheel, (0, 1)), value)}


def _drops(hall, load, value):
    return is_motion(hall, value) and work(load, value)[0] > 0


def _click_or_bear(hall, motion, forces):
    for part, force in zip(hall.parts, forces):
        clicks = part_sum(part, motion)[0] > 0
        bears = force[0] > 0
        if part.is_pawl and clicks == bears:
            return False
    return True


def _is_end(hall, load, wheel, end, sign):
    if not isinstance(end, tuple):
        return is_balance(hall, {wheel: (sign, 1)}, end)
    if len(end) != 2 or not is_fraction(end[0]) or not is_motion(hall, end[1]):
        return False
    value, motion = end
    return motion[wheel] == (sign, 1) and product((-sign, 1), work(load, motion)) == value


def _hold(hall, load, wheel, ends, holding):
    values = [end[0] for end in ends if isinstance(end, tuple)] or [(0, 1)]
    if not isinstance(holding, list) or len(holding) != len(values):
        return False
    for value, forces in zip(values, holding):
        if not is_balance(hall, _with_torque(load, wheel, value), forces):
            return False
    return True
