"""Wheels: how they can turn, which parts are needed, and what a hall looks like from a wheel."""

from pawlhall.checks import check_wheels
from pawlhall.cones import bounds, rows_of
from pawlhall.halls import Hall
from pawlhall.numbers import fraction, product, total
from pawlhall.parts import Brake, Chain, Differential, Freewheel, Mesh, Ratchet
from pawlhall.solver import solver_of


def state_of(hall, wheel):
    """Return "locked", "forward", "backward" or "free"."""
    check_wheels([wheel], hall.wheels)
    solver = solver_of(hall.parts, hall.wheels)
    ahead, _ = solver.decide({wheel: (1, 1)})
    back, _ = solver.decide({wheel: (-1, 1)})
    if ahead == "drops":
        return "free" if back == "drops" else "forward"
    return "backward" if back == "drops" else "locked"


def ratio(hall, wheel, other):
    """Return how often the other wheel turns while the wheel turns once, None if that varies."""
    check_wheels([wheel, other], hall.wheels)
    solver = solver_of(hall.parts, hall.wheels)
    word, found = solver.decide({wheel: (1, 1)})
    if word == "holds":
        word, found = solver.decide({wheel: (-1, 1)})
    if word == "holds":
        return None
    top, bottom = found[wheel]
    times = product(found[other], fraction(bottom, top))
    for sign in (1, -1):
        load = {wheel: product((-sign, 1), times)}
        load[other] = total(load.get(other, (0, 1)), (sign, 1))
        word, _ = solver.decide(load)
        if word == "drops":
            return None
    return times


def freedom(hall):
    """Return the greatest number of linearly independent motions."""
    ties, pawls = rows_of(hall.parts)
    rows, _ = bounds(hall.wheels, ties, pawls)
    return len(hall.wheels) - len(rows)


def idle(hall):
    """Return the numbers of the parts each of which alone changes no motions."""
    solver = solver_of(hall.parts, hall.wheels)
    return [number for number in range(len(hall)) if solver.follows(number)]


def seen_from(hall, wheel, floor):
    """Return the hall as it looks to somebody who sits on the wheel, with the floor as a wheel."""
    wheels = hall.wheels
    check_wheels([wheel], wheels)
    seen = Hall(*wheels)
    # This raises NoName and Twice, too.
    seen.add_wheel(floor)
    for part in hall.parts:
        seen.put(_seen(part, str(floor)))
    seen.put(Brake(wheel))
    return seen


def _seen(part, floor):
    """Return the part that seen turns satisfy exactly if the turns satisfy this one.

    Each turn is the seen turn less that of the floor, so the floor gets what the other
    weights lack to the sum 0.
    """
    if isinstance(part, Mesh):
        return _seen_pair(part, floor)
    if isinstance(part, Brake):
        return Chain(part.wheels[0], floor)
    if isinstance(part, Ratchet):
        name = part.wheels[0]
        return Freewheel(name, floor) if part.weights[name] > 0 else Freewheel(floor, name)
    # The weights of a differential and of a freewheel have the sum 0 themselves.
    return part


def _seen_pair(part, floor):
    a, b = part.wheels
    teeth, other_teeth = part.weights[a], -part.weights[b]
    if other_teeth < 0:
        return Differential(a, b, floor, teeth, -other_teeth)
    if teeth > other_teeth:
        return Differential(b, floor, a, other_teeth, teeth - other_teeth)
    if teeth < other_teeth:
        return Differential(a, floor, b, teeth, other_teeth - teeth)
    return part
