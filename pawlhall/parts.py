"""The parts of a hall: ties demand that a sum is 0, pawls that it is at least 0."""

from pawlhall.checks import check_distinct, check_names, is_int
from pawlhall.errors import NoName, NoTeeth, NoText, Twice


class Part:
    """What all parts have in common; only the classes below it are created."""

    KINDS = ("mesh", "chain", "differential", "brake", "ratchet", "freewheel")

    @staticmethod
    def read(text):
        """Return the part with that text; raise NoText if there is none."""
        part = _part_or_none(text)
        if part is None:
            raise NoText(text)
        return part

    @property
    def wheels(self):
        """The tuple of the names."""
        raise NotImplementedError("a class below Part says it")

    @property
    def weights(self):
        """A new dictionary from the names to their factors in the sum."""
        raise NotImplementedError("a class below Part says it")

    @property
    def is_pawl(self):
        """Whether the sum may be above 0."""
        raise NotImplementedError("a class below Part says it")

    @property
    def text(self):
        """The written form."""
        raise NotImplementedError("a class below Part says it")

    def __eq__(self, other):
        return isinstance(other, Part) and self.text == other.text


class Mesh(Part):
    """A tie: two wheels turn in a fixed ratio in opposite directions."""

    def __init__(self, a, b, teeth=1, other_teeth=1):
        self._names = _checked_names(a, b)
        self._teeth = _checked_teeth(teeth, other_teeth)

    @property
    def wheels(self):
        return self._names

    @property
    def weights(self):
        a, b = self._names
        teeth, other_teeth = self._teeth
        return {a: teeth, b: other_teeth}

    @property
    def is_pawl(self):
        return False

    @property
    def text(self):
        return _written("mesh", self._names, self._teeth)


class Chain(Mesh):
    """A tie: two wheels turn in a fixed ratio in the same direction."""

    def __init__(self, a, b, teeth=1, other_teeth=1):
        Mesh.__init__(self, a, b, teeth, other_teeth)

    @property
    def wheels(self):
        return self._names

    @property
    def weights(self):
        a, b = self._names
        teeth, other_teeth = self._teeth
        return {a: teeth, b: -other_teeth}

    @property
    def is_pawl(self):
        return False

    @property
    def text(self):
        return _written("chain", self._names, self._teeth)


class Differential(Part):
    """A tie: the carrier turns by the weighted mean of two wheels."""

    def __init__(self, a, b, carrier, teeth=1, other_teeth=1):
        self._names = _checked_names(a, b, carrier)
        self._teeth = _checked_teeth(teeth, other_teeth)

    @property
    def wheels(self):
        return self._names

    @property
    def weights(self):
        a, b, carrier = self._names
        teeth, other_teeth = self._teeth
        return {a: teeth, b: other_teeth, carrier: -teeth - other_teeth}

    @property
    def is_pawl(self):
        return False

    @property
    def text(self):
        return _written("differential", self._names, self._teeth)


class Brake(Part):
    """A tie: the wheel does not turn."""

    def __init__(self, a):
        self._names = _checked_names(a)

    @property
    def wheels(self):
        return self._names

    @property
    def weights(self):
        return {self._names[0]: 1}

    @property
    def is_pawl(self):
        return False

    @property
    def text(self):
        return _written("brake", self._names, ())


class OneWay(Part):
    """What all pawls have in common; only the classes below it are created."""


class Ratchet(OneWay):
    """A pawl: the wheel turns only forward, or only backward."""

    def __init__(self, a, *, backward=False):
        self._names = _checked_names(a)
        if backward is not True and backward is not False:
            raise NoTeeth(backward)
        self._backward = backward

    @property
    def wheels(self):
        return self._names

    @property
    def weights(self):
        return {self._names[0]: -1 if self._backward else 1}

    @property
    def is_pawl(self):
        return True

    @property
    def text(self):
        return _written("ratchet", self._names, ("backward",) if self._backward else ())


class Freewheel(OneWay):
    """A pawl: the first wheel does not fall behind the second one."""

    def __init__(self, a, b):
        self._names = _checked_names(a, b)

    @property
    def wheels(self):
        return self._names

    @property
    def weights(self):
        a, b = self._names
        return {a: 1, b: -1}

    @property
    def is_pawl(self):
        return True

    @property
    def text(self):
        return _written("freewheel", self._names, ())


def _checked_names(*names):
    check_names(names)
    check_distinct(names)
    # A caller's name may be of a class below str; what is returned is a str.
    return tuple([str(name) for name in names])


def _checked_teeth(*teeth):
    for value in teeth:
        if not is_int(value) or value < 1:
            raise NoTeeth(value)
    # As with names: exactly int, also if the caller's class is below it.
    return tuple([int(value) for value in teeth])


def _written(kind, names, ending):
    return " ".join([str(word) for word in (kind, *names, *ending)])


def _part_or_none(text):
    if not isinstance(text, str):
        return None
    try:
        part = _part_of_words(text.split(" "))
    except (NoName, Twice, NoTeeth):
        return None
    # Comparing the texts refuses what int takes and no part writes, as "01".
    if part is None or part.text != text:
        return None
    return part


def _part_of_words(words):
    kind, *rest = words
    many = len(rest)
    if kind == "mesh" and many == 4:
        return Mesh(rest[0], rest[1], _number(rest[2]), _number(rest[3]))
    if kind == "chain" and many == 4:
        return Chain(rest[0], rest[1], _number(rest[2]), _number(rest[3]))
    if kind == "differential" and many == 5:
        return Differential(rest[0], rest[1], rest[2], _number(rest[3]), _number(rest[4]))
    if kind == "brake" and many == 1:
        return Brake(rest[0])
    if kind == "ratchet" and many == 1:
        return Ratchet(rest[0])
    if kind == "ratchet" and many == 2 and rest[1] == "backward":
        return Ratchet(rest[0], backward=True)
    if kind == "freewheel" and many == 2:
        return Freewheel(rest[0], rest[1])
    return None


def _number(word):
    # None is no number of teeth, so the constructors refuse it.
    return int(word) if word.isdecimal() else None
