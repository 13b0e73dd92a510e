"""Halls: wheels and the parts that tie them."""

from pawlhall.checks import check_distinct, check_names, check_wheels, is_int, split_text
from pawlhall.errors import NoName, NoPart, NoText, NoWheel, Twice
from pawlhall.parts import Part


class Hall:
    """Wheels in the order in which they were added, parts in the order in which they were put."""

    MOST_WHEELS = 8

    def __init__(self, *names):
        check_names(names)
        check_distinct(names)
        # As with parts: exactly str, also if the caller's class is below it.
        self._wheels = [str(name) for name in names]
        self._parts = []

    @classmethod
    def read(cls, text):
        """Return the hall with that text; raise NoText if there is none."""
        hall = cls()
        fill(hall, text)
        return hall

    @property
    def wheels(self):
        """The tuple of the names."""
        return tuple(self._wheels)

    @property
    def parts(self):
        """The tuple of the parts; the number of a part is its place in it."""
        return tuple(self._parts)

    @property
    def text(self):
        """The written form."""
        return written(["wheels", *self._wheels], self._parts)

    def add_wheel(self, name):
        """Add a wheel."""
        check_names([name])
        if name in self._wheels:
            raise Twice(name)
        self._wheels.append(str(name))

    def put(self, part):
        """Add the part as the last one and return its number."""
        if not isinstance(part, Part):
            raise NoPart(part)
        check_wheels(part.wheels, self._wheels)
        self._parts.append(part)
        return len(self._parts) - 1

    def take(self, number):
        """Remove the part with that number."""
        if not is_int(number) or not 0 <= number < len(self._parts):
            raise NoPart(number)
        del self._parts[number]

    def copy(self):
        """Return an equal hall that shares nothing with this one."""
        other = Hall(*self._wheels)
        for part in self._parts:
            # The parts are made anew, too: not even these are shared.
            other.put(Part.read(part.text))
        return other

    def trial(self):
        """Return what restores wheels and parts when a with block over it ends."""
        return Trial(self)

    def played(self, steps):
        """Play the steps and return the texts behind each that is not a trial."""
        texts = []
        for step in steps:
            if step[0] == "trial":
                with self.trial():
                    texts.extend(self.played(step[1]))
            else:
                self._play(step)
                texts.append(self.text)
        return texts

    def _add_item(self, item):
        self.put(Part.read(item))

    def _play(self, step):
        kind, value = step
        if kind == "put":
            self.put(value)
        elif kind == "take":
            self.take(value)
        elif kind == "wheel":
            self.add_wheel(value)

    def __eq__(self, other):
        return isinstance(other, Hall) and self.text == other.text

    def __len__(self):
        return len(self._parts)


def fill(hall, text):
    """Give a new hall, or a new box, what the text says; raise NoText if it is the text of none."""
    names, items = split_text(text)
    try:
        for name in names:
            hall.add_wheel(name)
        for item in items:
            hall._add_item(item)
    except (NoName, Twice, NoText, NoWheel):
        raise NoText(text) from None
    # Comparing the texts also refuses a first word other than "wheels".
    if hall.text != text:
        raise NoText(text)


def written(words, parts):
    """Return the text of an item of these words and of the parts behind it."""
    return "; ".join([" ".join(words), *[part.text for part in parts]])


class Trial:
    """Gives a hall back the wheels and parts that it had when the block began."""

    def __init__(self, hall):
        self._hall = hall

    def __enter__(self):
        # Taken here and not when the trial is made: the block begins now.
        self._wheels = list(self._hall.wheels)
        self._parts = list(self._hall.parts)
        return self._hall

    def __exit__(self, kind, value, trace):
        hall = self._hall
        hall._wheels = self._wheels
        hall._parts = self._parts
