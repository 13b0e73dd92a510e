"""Elementary motions: no other motion rests wherever they do, and all motions are sums of them."""

from itertools import combinations

from pawlhall.checks import is_fraction
from pawlhall.cones import generators, rows_of
from pawlhall.errors import NoTurns
from pawlhall.motions import is_motion, part_sum
from pawlhall.numbers import fraction, product, total
from pawlhall.rows import shortened, summed
from pawlhall.ways import negated, sum_on


def elementary(hall):
    """Yield the elementary motions with whole turns, in ascending order."""
    wheels = hall.wheels
    ties, pawls = rows_of(hall.parts)
    found = {}
    for way in _simplest(wheels, ties, pawls):
        for turns in (way, negated(way)):
            if all([sum_on(turns, pawl) >= 0 for pawl in pawls]):
                found[tuple([turns.get(name, 0) for name in wheels])] = True
    for turns in sorted(found):
        yield {name: (turn, 1) for name, turn in zip(wheels, turns)}


def parted(hall, turns):
    """Return a list of tuples (factor, motion): elementary motions that sum up to the motion."""
    _check_motion(hall, turns)
    shares = []
    left = _profile(hall, turns)
    for motion in elementary(hall):
        places = _profile(hall, motion)
        # Less the greatest share that turns no sign, the rest has one place more with 0. So no
        # motion that was passed over, and none that was taken, fits the rest later on.
        if _fits(places, left):
            factor = _greatest(places, left)
            less = product((-1, 1), factor)
            left = [total(rest, product(less, place)) for rest, place in zip(left, places)]
            shares.append((factor, motion))
    return shares


def parted_shown(hall, turns, told):
    """Whether told is a right answer of parted."""
    _check_motion(hall, turns)
    if not isinstance(told, list) or not all([_is_share(hall, share) for share in told]):
        return False
    whole = _profile(hall, turns)
    if len(told) > len([place for place in whole if place[0] != 0]):
        return False
    motions = [motion for _, motion in told]
    if not all([_fits(_profile(hall, motion), whole) for motion in motions]):
        return False
    if any([motion in motions[:at] for at, motion in enumerate(motions)]):
        return False
    for name in hall.wheels:
        amounts = [product(factor, motion[name]) for factor, motion in told]
        if total(*amounts) != turns[name]:
            return False
    known = list(elementary(hall))
    return all([motion in known for motion in motions])


def _check_motion(hall, turns):
    if not is_motion(hall, turns):
        raise NoTurns(turns)


def _simplest(wheels, ties, pawls):
    """Return ways with the fewest places of the profile that are not 0, one of each two directions."""
    base, _ = generators(wheels, ties, [])
    names = [str(number) for number in range(len(base))]
    # How each place of the profile depends on the shares that the ways of the base have.
    places = []
    for row in [{name: 1} for name in wheels] + pawls:
        sums = {name: sum_on(way, row) for name, way in zip(names, base)}
        if any([sums[name] != 0 for name in names]):
            places.append(shortened(sums))
    if not base:
        return []
    shares = _single(names, places, len(base) - 1)
    return [summed(base, [share.get(name, 0) for name in names]) for share in shares]


def _single(names, places, many):
    """Return the shares for which that many places are 0 and that no others are independent of."""
    found = []
    for chosen in combinations(places, many):
        lines, _ = generators(names, list(chosen), [])
        if len(lines) == 1:
            found.append(lines[0])
    return found


def _profile(hall, turns):
    """Return the list of the turns and, behind them, of the sums of the pawls."""
    sums = [part_sum(part, turns) for part in hall.parts if part.is_pawl]
    return [turns[name] for name in hall.wheels] + sums


def _fits(places, whole):
    """Whether all places that are not 0 have the sign of the place in the whole."""
    return all([one[0] == 0 or one[0] * other[0] > 0 for one, other in zip(places, whole)])


def _greatest(places, whole):
    """Return the greatest factor with which the places reach the whole in none but one place."""
    found = None
    for (top, bottom), (whole_top, whole_bottom) in zip(places, whole):
        if top != 0:
            factor = fraction(whole_top * bottom, whole_bottom * top)
            if found is None or factor[0] * found[1] < found[0] * factor[1]:
                found = factor
    return found


def _is_share(hall, value):
    if not isinstance(value, tuple) or len(value) != 2:
        return False
    factor, motion = value
    return is_fraction(factor) and factor[0] > 0 and is_motion(hall, motion)
