"""Drives: a hall that is driven by hand, with dials, brakes and undo."""

from pawlhall.checks import check_distinct, check_wheels
from pawlhall.errors import Loose, NothingToUndo, Stuck
from pawlhall.numbers import product, total
from pawlhall.parts import Brake
from pawlhall.wishes import driven, settled


class Drive:
    """A copy of a hall, the turns that it has made, and the brakes that hold it."""

    def __init__(self, hall):
        self._hall = hall.copy()
        # These are replaced and never changed, so that a block can keep what was there.
        self._brakes = []
        self._dials = {name: (0, 1) for name in hall.wheels}
        self._turns = []

    @property
    def dials(self):
        """The dictionary from the wheels to their total turns."""
        return dict(self._dials)

    def now(self):
        """Return a copy of the hall with the brakes as last parts."""
        hall = self._hall.copy()
        for name in self._brakes:
            hall.put(Brake(name))
        return hall

    def turn(self, amounts):
        """Turn these wheels by these amounts and return the motion."""
        hall = self.now()
        told = driven(hall, amounts)
        if told[0] == "stuck":
            _, load, forces = told
            raise Stuck(load, forces)
        known = settled(hall, amounts)
        loose = tuple([name for name in hall.wheels if name not in known])
        if loose:
            raise Loose(loose)
        _, motion = told
        self._dials = {name: total(self._dials[name], motion[name]) for name in motion}
        self._turns = [*self._turns, motion]
        return dict(motion)

    def spun(self, **amounts):
        """Turn the wheels by the amounts that are passed by their names; return the motion."""
        return self.turn(amounts)

    def undo(self):
        """Take back the last turn and return its motion."""
        if not self._turns:
            raise NothingToUndo()
        motion = self._turns[-1]
        back = {name: product((-1, 1), motion[name]) for name in motion}
        self._dials = {name: total(self._dials[name], back[name]) for name in back}
        self._turns = self._turns[:-1]
        return dict(motion)

    def steps(self):
        """Yield the motions of the turns that are not taken back."""
        for motion in list(self._turns):
            yield dict(motion)

    def held(self, *names):
        """Return what holds these wheels while a with block over it runs."""
        check_wheels(names, list(self._dials))
        check_distinct(names)
        return Holding(self, names)

    def trial(self):
        """Return what restores dials and turns when a with block over it ends."""
        return DriveTrial(self)

    def turned(self, names, amounts):
        """Make one turn while these wheels are held, and return its motion."""
        with self.held(*names):
            return self.turn(amounts)

    def tried(self, turns):
        """Make these turns within a trial and return their motions."""
        with self.trial():
            return [self.turn(amounts) for amounts in turns]

    def played(self, steps):
        """Play the steps and return the motions that are turned and undone."""
        motions = []
        for step in steps:
            kind, *values = step
            if kind == "turn":
                motions.append(self.turn(values[0]))
            elif kind == "undo":
                motions.append(self.undo())
            elif kind == "held":
                names, inner = values
                with self.held(*names):
                    motions.extend(self.played(inner))
            elif kind == "trial":
                with self.trial():
                    motions.extend(self.played(values[0]))
        return motions

    def __len__(self):
        return len(self._turns)


class Holding:
    """Puts brakes on wheels of a drive when the block begins, and takes them off."""

    def __init__(self, drive, names):
        self._drive = drive
        self._names = names

    def __enter__(self):
        drive = self._drive
        self._brakes = drive._brakes
        drive._brakes = [*self._brakes, *self._names]
        return drive

    def __exit__(self, kind, value, trace):
        drive = self._drive
        drive._brakes = self._brakes


class DriveTrial:
    """Gives a drive back the dials and turns that it had when the block began."""

    def __init__(self, drive):
        self._drive = drive

    def __enter__(self):
        drive = self._drive
        self._dials = drive._dials
        self._turns = drive._turns
        return drive

    def __exit__(self, kind, value, trace):
        drive = self._drive
        drive._dials = self._dials
        drive._turns = self._turns
