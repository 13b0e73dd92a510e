"""Boxes: halls with lever positions, and what a series of motions in these positions reaches."""

from itertools import combinations

from pawlhall.checks import check_names, check_wheels, is_amounts
from pawlhall.errors import NoLever, NoPart, Twice
from pawlhall.halls import Hall, fill, written
from pawlhall.loads import is_balance
from pawlhall.motions import is_motion, work
from pawlhall.numbers import fraction, product, total
from pawlhall.parts import Part
from pawlhall.solver import Solver
from pawlhall.wishes import ONE, check_wishes, wish_row


class Box(Hall):
    """A hall whose parts are always there, with lever positions that add parts of their own."""

    def __init__(self, *names):
        Hall.__init__(self, *names)
        self._levers = {}

    @classmethod
    def read(cls, text):
        """Return the box with that text; raise NoText if there is none."""
        box = cls()
        fill(box, text)
        return box

    @property
    def levers(self):
        """The tuple of the names of the positions."""
        return tuple(self._levers) or ("",)

    @property
    def text(self):
        """The written form."""
        levers = [written(["lever", name], self._levers[name]) for name in self._levers]
        return "; ".join([written(["wheels", *self._wheels], self._parts), *levers])

    def lever(self, name, *parts):
        """Add a position with these parts."""
        check_names([name])
        if name in self._levers:
            raise Twice(name)
        for part in parts:
            if not isinstance(part, Part):
                raise NoPart(part)
        for part in parts:
            check_wheels(part.wheels, self._wheels)
        self._levers[str(name)] = parts

    def at(self, name):
        """Return the hall in that position."""
        if name not in self.levers:
            raise NoLever(name)
        hall = Hall(*self._wheels)
        for part in [*self._parts, *self._levers.get(name, ())]:
            hall.put(part)
        return hall

    def copy(self):
        """Return an equal box that shares nothing with this one."""
        other = Box(*self._wheels)
        for part in self._parts:
            other.put(Part.read(part.text))
        for name in self._levers:
            parts = [Part.read(part.text) for part in self._levers[name]]
            other.lever(name, *parts)
        return other

    def trial(self):
        """Return what restores wheels, parts and positions when a with block over it ends."""
        return BoxTrial(self)

    def _add_item(self, item):
        first, *words = item.split(" ")
        if first == "lever" and len(words) == 1:
            self.lever(words[0])
        elif self._levers:
            # A part behind a lever item belongs to it.
            part = Part.read(item)
            check_wheels(part.wheels, self._wheels)
            last = list(self._levers)[-1]
            self._levers[last] = (*self._levers[last], part)
        else:
            self.put(Part.read(item))

    def _play(self, step):
        if step[0] == "lever":
            _, name, parts = step
            self.lever(name, *parts)
        else:
            super()._play(step)

    def __eq__(self, other):
        return isinstance(other, Hall) and self.text == other.text


class BoxTrial:
    """Gives a box back the wheels, parts and positions that it had when the block began."""

    def __init__(self, box):
        self._box = box

    def __enter__(self):
        box = self._box
        self._wheels = list(box.wheels)
        self._parts = list(box.parts)
        self._levers = dict(box._levers)
        return box

    def __exit__(self, kind, value, trace):
        box = self._box
        box._wheels = self._wheels
        box._parts = self._parts
        box._levers = self._levers


def reach(box, wishes):
    """Return ("reached", plan) or ("never", load, forces)."""
    check_wishes(box, wishes)
    return _planned(box, wishes, box.levers)


def fewest(box, wishes):
    """Return ("reached", plan) with the fewest and first positions, or what reach returns."""
    check_wishes(box, wishes)
    levers = box.levers
    for many in range(len(levers) + 1):
        for numbers in combinations(range(len(levers)), many):
            told = _planned(box, wishes, [levers[number] for number in numbers])
            if told[0] == "reached":
                return told
    return reach(box, wishes)


def reaches(box, wishes, told):
    """Whether told is a right answer of reach."""
    check_wishes(box, wishes)
    if not isinstance(told, tuple) or len(told) not in (2, 3):
        return False
    if len(told) == 2:
        word, plan = told
        return word == "reached" and _is_plan(box, wishes, plan)
    word, load, forces = told
    if word != "never" or not is_amounts(load, wishes) or work(load, wishes)[0] <= 0:
        return False
    return _is_never(box, load, forces)


def _planned(box, wishes, levers):
    """Return what reach returns for the box with only these positions."""
    halls = {lever: box.at(lever) for lever in levers}
    wished = [name for name in box.wheels if name in wishes]
    word, found = _solver_of(halls, box.wheels, wishes).decide({ONE: (1, 1)})
    if word == "drops":
        top, bottom = found[ONE]
        once = fraction(bottom, top)
        plan = {}
        for lever in levers:
            turns = {name: found[_turn_of(lever, name)] for name in box.wheels}
            plan[lever] = {name: product(turns[name], once) for name in turns}
        return "reached", plan
    forces, start = {}, 0
    for lever in levers:
        end = start + len(halls[lever])
        forces[lever] = found[start:end]
        start = end
    torques = [product(force, (wishes[name][1], 1)) for name, force in zip(wished, found[start:])]
    return "never", dict(zip(wished, torques)), forces


def _solver_of(halls, wheels, wishes):
    """Return a solver for turns in each of the halls, with a tie of their sums for each wish."""
    names, rows, pawls = [ONE], [], []
    for lever in halls:
        names.extend([_turn_of(lever, name) for name in wheels])
        for part in halls[lever].parts:
            weights = part.weights
            rows.append({_turn_of(lever, name): weights[name] for name in weights})
            pawls.append(part.is_pawl)
    for name in wheels:
        if name in wishes:
            rows.append(wish_row([_turn_of(lever, name) for lever in halls], wishes[name]))
            pawls.append(False)
    return Solver(names, rows, pawls)


def _turn_of(lever, name):
    # No name of a wheel has a blank, so each turn in each position has a name of its own.
    return f"{lever} {name}"


def _is_plan(box, wishes, value):
    levers = box.levers
    if not isinstance(value, dict) or not all([lever in levers for lever in value]):
        return False
    if not all([is_motion(box.at(lever), value[lever]) for lever in value]):
        return False
    for name in wishes:
        turns = [value[lever][name] for lever in value]
        if total(*turns) != wishes[name]:
            return False
    return True


def _is_never(box, load, value):
    levers = box.levers
    if not isinstance(value, dict) or len(value) != len(levers):
        return False
    # As each key is a position, as many keys as positions are all of them.
    if not all([lever in levers for lever in value]):
        return False
    return all([is_balance(box.at(lever), load, value[lever]) for lever in value])
