"""What is right about motions, forces and answers, by sums and products of fractions.

Nothing of this calls a function of the package; of halls it asks for wheels and parts, of
parts for weights and is_pawl.
"""

from fractions import Fraction
from math import gcd

# One of each kind of value that "may be anything" speaks of.
JUNK = [
    None,
    True,
    False,
    0,
    1,
    -1,
    10**11,
    "",
    "a",
    "drops",
    "holds",
    "between",
    "never",
    "runs",
    "stuck",
    "unlike",
    "reached",
    (),
    (0, 1),
    (1, 1),
    ("drops",),
    ("holds",),
    ("drops", None),
    ("holds", None),
    ("never", None),
    ("drops", []),
    ("holds", {}),
    ("holds", [], []),
    ("holds", {}, {}),
    ("between", [], [], []),
    ("between", (), (), []),
    ("between", None, None, None),
    ("a", "b", "c", "d", "e"),
    ("runs", None),
    ("runs", {}),
    ("stuck", {}, []),
    ("stuck", None, None),
    ("most", (0, 1), {}, {}, []),
    ("most", 0, None, None, None),
    ("endless", {}, {}),
    ("endless", None, None),
    ("reached", None),
    ("reached", {}),
    ("reached", []),
    ("reached", {None: {}}),
    ("reached", {"": {}}),
    ("never", {}, {}),
    ("never", None, None),
    ("unlike", 0, {}, {}, []),
    ("unlike", None, None, None, None),
    ("unlike", [], [], [], []),
    [],
    [0],
    [(0, 1)],
    ["drops", {}],
    {},
    {"a": 1},
    {"a": (2, 4)},
    {1: (1, 1)},
    {None: (1, 1)},
    {("a",): (1, 1)},
    {"zz": (1, 1)},
]


def is_fraction(value):
    if not isinstance(value, tuple) or len(value) != 2:
        return False
    if any(not isinstance(one, int) or isinstance(one, bool) for one in value):
        return False
    return value[1] >= 1 and gcd(value[0], value[1]) == 1


def number(value):
    return Fraction(value[0], value[1])


def written(value):
    value = Fraction(value)
    return (value.numerator, value.denominator)


def sum_on(part, turns):
    return sum(weight * number(turns[name]) for name, weight in part.weights.items())


def satisfied(part, turns):
    amount = sum_on(part, turns)
    return amount >= 0 if part.is_pawl else amount == 0


def is_turns(hall, value):
    return (
        isinstance(value, dict)
        and set(value) == set(hall.wheels)
        and all(is_fraction(one) for one in value.values())
    )


def is_motion(hall, value):
    return is_turns(hall, value) and all(satisfied(part, value) for part in hall.parts)


def work(load, turns):
    return sum(number(load[name]) * number(turns[name]) for name in load if name in turns)


def balances(hall, load, forces):
    if not isinstance(forces, list) or len(forces) != len(hall.parts):
        return False
    if not all(is_fraction(force) for force in forces):
        return False
    left = {name: number(load.get(name, (0, 1))) for name in hall.wheels}
    for part, force in zip(hall.parts, forces):
        if part.is_pawl and number(force) < 0:
            return False
        for name, weight in part.weights.items():
            left[name] += number(force) * weight
    return not any(left.values())


def drops(hall, load, motion):
    return is_motion(hall, motion) and work(load, motion) > 0


def verdict(hall, load, told):
    """Whether told is right about a load, as [11] says."""
    if not isinstance(told, tuple) or len(told) != 2:
        return False
    if told[0] == "drops":
        return drops(hall, load, told[1])
    return told[0] == "holds" and balances(hall, load, told[1])


def bearing(hall, load, told):
    """Whether told is right about a load, as [12] says."""
    if not isinstance(told, tuple):
        return False
    if len(told) == 2:
        return told[0] == "drops" and drops(hall, load, told[1])
    if len(told) != 3 or told[0] != "holds":
        return False
    _, motion, forces = told
    if not is_motion(hall, motion) or not balances(hall, load, forces):
        return False
    return work(load, motion) == 0 and all(
        (sum_on(part, motion) > 0) != (number(force) > 0)
        for part, force in zip(hall.parts, forces)
        if part.is_pawl
    )


def added(load, wheel, value):
    return {**load, wheel: written(number(load.get(wheel, (0, 1))) + value)}


def is_end(hall, load, wheel, end, sign):
    if isinstance(end, list):
        return balances(hall, {wheel: (sign, 1)}, end)
    if not isinstance(end, tuple) or len(end) != 2 or not is_fraction(end[0]):
        return False
    value, motion = end
    return (
        is_motion(hall, motion)
        and number(motion[wheel]) == sign
        and work(load, motion) == -sign * number(value)
    )


def held(hall, load, wheel, told):
    """Whether told is right about a load and a wheel, as [13] says."""
    if not isinstance(told, tuple):
        return False
    if len(told) == 2:
        return told[0] == "never" and drops(hall, load, told[1]) and told[1][wheel] == (0, 1)
    if len(told) != 4 or told[0] != "between":
        return False
    _, low, high, holding = told
    if not is_end(hall, load, wheel, low, -1) or not is_end(hall, load, wheel, high, 1):
        return False
    values = [number(end[0]) for end in (low, high) if isinstance(end, tuple)] or [0]
    return (
        isinstance(holding, list)
        and len(holding) == len(values)
        and all(
            balances(hall, added(load, wheel, value), forces)
            for value, forces in zip(values, holding)
        )
    )


def grants(hall, wishes, motion):
    return is_motion(hall, motion) and all(motion[name] == wishes[name] for name in wishes)


def is_load(load, wheels):
    """Whether load is a dictionary from some of these wheels to fractions."""
    if not isinstance(load, dict) or not set(load) <= set(wheels):
        return False
    return all(is_fraction(value) for value in load.values())


def stuck(hall, wishes, told):
    if len(told) != 3 or told[0] != "stuck" or not is_load(told[1], wishes):
        return False
    return work(told[1], wishes) > 0 and balances(hall, told[1], told[2])


def driven(hall, wishes, told):
    """Whether told is right about wishes, as [21] says."""
    if not isinstance(told, tuple):
        return False
    if len(told) == 2:
        return told[0] == "runs" and grants(hall, wishes, told[1])
    return stuck(hall, wishes, told)


def most(hall, wishes, wheel, told, sign=1):
    """Whether told is right about wishes and a wheel, as [22] says; sign is -1 for backward."""
    if not isinstance(told, tuple):
        return False
    if len(told) == 3 and told[0] == "endless":
        _, motion, way = told
        return (
            grants(hall, wishes, motion)
            and is_motion(hall, way)
            and all(way[name] == (0, 1) for name in wishes)
            and sign * way[wheel][0] > 0
        )
    if len(told) != 5 or told[0] != "most":
        return stuck(hall, wishes, told)
    _, value, motion, load, forces = told
    if not is_fraction(value) or not grants(hall, wishes, motion) or not is_load(load, wishes):
        return False
    if number(motion[wheel]) != sign * number(value) or work(load, wishes) != number(value):
        return False
    less = {name: written(-number(torque)) for name, torque in load.items()}
    return balances(hall, added(less, wheel, sign), forces)


def unlike(one, other, outer, told):
    """Whether told is right about two halls that differ, as [18] says."""
    if not isinstance(told, tuple) or len(told) != 5 or told[0] != "unlike":
        return False
    _, which, motion, load, forces = told
    if type(which) is not int or which not in (0, 1) or not is_load(load, outer):
        return False
    mover, holder = (one, other) if which == 0 else (other, one)
    return drops(mover, load, motion) and balances(holder, load, forces)


def reached(box, wishes, told):
    """Whether told is right about a box and wishes, as [24] says; at() is asked for the halls."""
    if not isinstance(told, tuple):
        return False
    if len(told) == 2 and told[0] == "reached":
        plan = told[1]
        if not isinstance(plan, dict) or not set(plan) <= set(box.levers):
            return False
        if not all(is_motion(box.at(lever), motion) for lever, motion in plan.items()):
            return False
        sums = {name: sum(number(motion[name]) for motion in plan.values()) for name in wishes}
        return all(sums[name] == number(wishes[name]) for name in wishes)
    if len(told) != 3 or told[0] != "never":
        return False
    _, load, forces = told
    if not is_load(load, wishes) or work(load, wishes) <= 0:
        return False
    if not isinstance(forces, dict) or set(forces) != set(box.levers):
        return False
    return all(balances(box.at(lever), load, row) for lever, row in forces.items())


def profile(hall, turns):
    """The places of [27]: the turns in the order of the wheels, and the sums of the pawls."""
    pawls = [sum_on(part, turns) for part in hall.parts if part.is_pawl]
    return [number(turns[name]) for name in hall.wheels] + pawls


def parted(hall, turns, told, known):
    """Whether told is right about a motion, as [28] says; known are the elementary motions."""
    if not isinstance(told, list):
        return False
    whole, motions = profile(hall, turns), []
    for share in told:
        if not isinstance(share, tuple) or len(share) != 2:
            return False
        factor, motion = share
        if not is_fraction(factor) or factor[0] <= 0 or not is_motion(hall, motion):
            return False
        if motion not in known or motion in motions:
            return False
        if any(one * two < 0 or (one and not two) for one, two in zip(profile(hall, motion), whole)):
            return False
        motions.append(motion)
    sums = [
        sum(number(factor) * number(motion[name]) for factor, motion in told)
        for name in hall.wheels
    ]
    many = sum(1 for place in whole if place)
    return sums == [number(turns[name]) for name in hall.wheels] and len(told) <= many


def plain(value):
    """Whether the value has only the types of Python itself, not classes below them."""
    if type(value) in (list, tuple):
        return all(plain(one) for one in value)
    if type(value) is dict:
        return all(plain(key) and plain(one) for key, one in value.items())
    return value is None or type(value) in (int, str, bool)


def holders(value):
    """All lists and dictionaries in a value."""
    if isinstance(value, dict):
        return [value] + [one for item in value.values() for one in holders(item)]
    if isinstance(value, (list, tuple)):
        own = [value] if isinstance(value, list) else []
        return own + [one for item in value for one in holders(item)]
    return []


def bent(value):
    """Values that differ from this one a little, each in one place."""
    if isinstance(value, bool) or value is None:
        return
    if isinstance(value, int):
        yield from (value + 1, value - 1, -value, value == 1, str(value), None)
    elif isinstance(value, str):
        words = ("drops", "holds", "never", "between", "runs", "stuck", "most", "endless")
        words += ("unlike", "alike", "reached", "", value + "s", value.upper(), None)
        yield from (word for word in words if word != value)
    elif isinstance(value, tuple) and is_fraction(value):
        top, bottom = value
        yield from ((top + bottom, bottom), (top - bottom, bottom), (-top, bottom))
        yield from ((2 * top, 2 * bottom), (top, -bottom), (top, 0), [top, bottom], (top,))
        yield from ((top, bottom, 1), (bottom == 1, bottom), (top, bottom == 1), None, top)
        yield (0, 1)
    elif isinstance(value, (tuple, list)):
        yield from bent_row(value)
    elif isinstance(value, dict):
        yield from bent_table(value)


def bent_row(value):
    kind = type(value)
    rows = list(value)
    yield (list if kind is tuple else tuple)(value)
    yield None
    yield kind(rows + [None])
    yield kind(rows + [(0, 1)])
    yield kind(rows[::-1])
    for at, one in enumerate(rows):
        yield kind(rows[:at] + rows[at + 1 :])
        yield kind(rows[:at] + [one] + rows[at:])
        for other in bent(one):
            yield kind(rows[:at] + [other] + rows[at + 1 :])


def bent_table(value):
    yield None
    yield list(value.items())
    yield {**value, "zz": (0, 1)}
    yield {**value, None: (0, 1)}
    yield {name: (0, 1) for name in value}
    for name in value:
        yield {key: one for key, one in value.items() if key != name}
        for other in bent(value[name]):
            yield {**value, name: other}
