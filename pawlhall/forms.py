"""Smallest forms: what halls allow their outer wheels, each written in one way only."""

from pawlhall.checks import check_distinct, check_names, check_wheels, is_amounts, is_fraction
from pawlhall.checks import is_int, split_text
from pawlhall.cones import held, rows_of, shadow, smallest
from pawlhall.errors import NoName, NoPart, NoText, NoTurns, Twice
from pawlhall.halls import Hall
from pawlhall.loads import is_balance
from pawlhall.making import put_rows
from pawlhall.motions import is_motion, work
from pawlhall.numbers import product, total
from pawlhall.rows import shortened
from pawlhall.solver import Solver, solver_of
from pawlhall.ways import negated


class Form:
    """A smallest form: ties and pawls over some wheels, rows with an integer for each wheel."""

    def __init__(self, wheels, ties, pawls):
        self._wheels = wheels
        self._ties = ties
        self._pawls = pawls

    @classmethod
    def read(cls, text):
        """Return the form with that text; raise NoText if there is none."""
        names, items = split_text(text)
        try:
            check_names(names)
            check_distinct(names)
            ties = _read_rows(names, items, "tie")
            pawls = _read_rows(names, items, "pawl")
        except (NoName, Twice, NoText):
            raise NoText(text) from None
        ties, pawls = smallest(names, ties, pawls)
        form = cls(tuple(names), ties, pawls)
        # Comparing the texts refuses other first words, rows of another shape or order, and
        # rows that are not the smallest form of what they demand.
        if form.text != text:
            raise NoText(text)
        return form

    @property
    def wheels(self):
        """The tuple of the outer wheels."""
        return self._wheels

    @property
    def ties(self):
        """The tuple of the ties, in echelon form."""
        return self._ties

    @property
    def pawls(self):
        """The tuple of the pawls, ascending."""
        return self._pawls

    @property
    def text(self):
        """The written form."""
        items = [_written("form", self._wheels)]
        items.extend([_written("tie", row) for row in self._ties])
        items.extend([_written("pawl", row) for row in self._pawls])
        return "; ".join(items)

    def allows(self, *turns):
        """Whether these outer turns are possible."""
        _check_turns(self._wheels, turns)
        if any([_sum_of(row, turns) != 0 for row in self._ties]):
            return False
        return all([_sum_of(row, turns) >= 0 for row in self._pawls])

    def holds(self, *torques):
        """Whether the work of these torques is at most 0 on all possible outer turns."""
        _check_turns(self._wheels, torques)
        rows = [_as_row(self._wheels, row) for row in self._ties + self._pawls]
        pawls = [False for _ in self._ties] + [True for _ in self._pawls]
        word, _ = Solver(self._wheels, rows, pawls).decide(dict(zip(self._wheels, torques)))
        return word == "holds"

    def __eq__(self, other):
        if not isinstance(other, Form) or self._wheels != other.wheels:
            return False
        return self._ties == other.ties and self._pawls == other.pawls


def least_form(hall, outer=()):
    """Return the smallest form of the hall for the outer wheels, for () for all wheels."""
    return _form_of(hall.parts, hall.wheels, _checked_outer(hall.wheels, hall.wheels, outer))


def alike(one, other, outer=()):
    """Return ("alike", form), or ("unlike", which, motion, load, forces)."""
    outer = _shared_outer(one, other, outer)
    form = _form_of(one.parts, one.wheels, outer)
    other_form = _form_of(other.parts, other.wheels, outer)
    if form == other_form:
        return "alike", form
    found = _separated(one, other, other_form)
    if found is not None:
        return "unlike", 0, *found
    found = _separated(other, one, form)
    return "unlike", 1, *found


def unlike_shown(one, other, outer, told):
    """Whether told is a right "unlike" answer of alike."""
    outer = _shared_outer(one, other, outer)
    if not isinstance(told, tuple) or len(told) != 5:
        return False
    word, which, motion, load, forces = told
    if word != "unlike" or not is_int(which) or which not in (0, 1):
        return False
    mover, holder = (one, other) if which == 0 else (other, one)
    if not is_motion(mover, motion) or not is_amounts(load, outer):
        return False
    return work(load, motion)[0] > 0 and is_balance(holder, load, forces)


def built(form):
    """Return a hall with the wheels of the form first, and with this form for them."""
    wheels = form.wheels
    hall = Hall(*wheels)
    put_rows(hall, wheels, form.ties, form.pawls)
    return hall


def opposite(hall, outer=()):
    """Return a hall whose possible outer turns are the torques that this hall holds."""
    outer = _checked_outer(hall.wheels, hall.wheels, outer)
    ties, pawls = rows_of(hall.parts)
    ties, pawls = held(outer, _hidden(hall.wheels, outer), ties, pawls)
    return built(Form(outer, ties, pawls))


def replaced(hall, numbers, outer=()):
    """Return the hall with other parts for the group of parts with these numbers."""
    wheels, parts = hall.wheels, hall.parts
    _check_numbers(parts, numbers)
    outer = _checked_outer(wheels, wheels, outer)
    group = [part for number, part in enumerate(parts) if number in numbers]
    others = [part for number, part in enumerate(parts) if number not in numbers]
    inside, outside = _named_by(group), [*outer, *_named_by(others)]
    border = tuple([name for name in wheels if name in inside and name in outside])
    form = _form_of(group, wheels, border)
    other = Hall(*wheels)
    for part in others:
        other.put(part)
    put_rows(other, border, form.ties, form.pawls)
    return other


def _form_of(parts, wheels, outer):
    ties, pawls = rows_of(parts)
    ties, pawls = shadow(_hidden(wheels, outer), ties, pawls)
    ties, pawls = smallest(outer, ties, pawls)
    return Form(outer, ties, pawls)


def _hidden(wheels, outer):
    return [name for name in wheels if name not in outer]


def _checked_outer(wheels, allowed, outer):
    """Return the outer wheels, all wheels for (); raise NoWheel or Twice."""
    outer = outer or wheels
    check_wheels(outer, allowed)
    check_distinct(outer)
    # As with halls: exactly str, also if the caller's class is below it.
    return tuple([str(name) for name in outer])


def _shared_outer(one, other, outer):
    others = other.wheels
    return _checked_outer(one.wheels, [name for name in one.wheels if name in others], outer)


def _check_numbers(parts, numbers):
    for at, number in enumerate(numbers):
        if not is_int(number) or not 0 <= number < len(parts) or number in numbers[:at]:
            raise NoPart(number)


def _check_turns(wheels, turns):
    if len(turns) != len(wheels) or not all([is_fraction(turn) for turn in turns]):
        raise NoTurns(turns)


def _read_rows(names, items, word):
    """Return the rows of the items that begin with that word; raise NoText for wrong numbers."""
    rows = []
    for item in items:
        first, *words = item.split(" ")
        if first == word:
            if len(words) != len(names):
                raise NoText(item)
            row = [_read_number(one) for one in words]
            rows.append(_as_row(names, row))
    return rows


def _read_number(word):
    if not word.removeprefix("-").isdecimal():
        raise NoText(word)
    return int(word)


def _written(word, values):
    return " ".join([word, *[str(value) for value in values]])


def _as_row(names, row):
    return shortened(dict(zip(names, row)))


def _sum_of(row, turns):
    """Return the top of the sum of number times turn."""
    amounts = [product((number, 1), turn) for number, turn in zip(row, turns)]
    top, _ = total(*amounts)
    return top


def _named_by(parts):
    return [name for part in parts for name in part.wheels]


def _held_loads(form):
    """Return loads that the form holds, with no turns that drop none of them but the possible ones."""
    rows = [_as_row(form.wheels, row) for row in form.ties + form.pawls]
    rows = [negated(row) for row in rows] + rows[: len(form.ties)]
    return [{name: (row[name], 1) for name in row} for row in rows]


def _separated(hall, other, form):
    """Return a motion of the hall, a load that drops with it, and forces of the other hall.

    The form is that of the other hall. Return None if all motions of the hall are possible
    there, too.
    """
    solver = solver_of(hall.parts, hall.wheels)
    for load in _held_loads(form):
        word, motion = solver.decide(load)
        if word == "drops":
            _, forces = solver_of(other.parts, other.wheels).decide(load)
            return motion, load, forces
    return None
