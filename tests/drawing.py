"""Draws halls and loads from a seeded source, so that each run of the tests draws the same."""

from fractions import Fraction

from pawlhall.boxes import Box
from pawlhall.halls import Hall
from pawlhall.parts import Brake, Chain, Differential, Freewheel, Mesh, Ratchet
from right import number, written


def names(many):
    """That many names of one or two letters."""
    letters = "abcdefghijklmnopqrstuvwxyz"
    if many <= 26:
        return list(letters[:many])
    return [one + other for one in letters for other in letters][:many]


def tie(draw, wheels, teeth):
    kinds = [Brake] + [Mesh, Chain] * (len(wheels) > 1) * 2 + [Differential] * (len(wheels) > 2) * 3
    kind = draw.choice(kinds)
    if kind is Brake:
        return Brake(draw.choice(wheels))
    many = 3 if kind is Differential else 2
    return kind(*draw.sample(wheels, many), draw.randint(1, teeth), draw.randint(1, teeth))


def pawl(draw, wheels):
    if len(wheels) > 1 and draw.random() < 0.6:
        return Freewheel(*draw.sample(wheels, 2))
    return Ratchet(draw.choice(wheels), backward=draw.random() < 0.5)


def hall(draw, wheels=8, ties=5, pawls=5, teeth=4):
    """A hall with that many wheels, ties and pawls."""
    drawn = Hall(*names(wheels))
    parts = [tie(draw, drawn.wheels, teeth) for _ in range(ties)]
    parts += [pawl(draw, drawn.wheels) for _ in range(pawls)]
    draw.shuffle(parts)
    for part in parts:
        drawn.put(part)
    return drawn


def any_hall(draw):
    """A hall of up to 8 wheels and 10 parts, at most 5 of them pawls."""
    pawls = draw.randint(0, 5)
    return hall(draw, draw.randint(1, 8), draw.randint(0, 10 - pawls), pawls)


def fraction(draw, least, most, bottoms):
    return Fraction(draw.randint(least, most), draw.randint(1, bottoms))


def load(draw, drawn, size=4, bottoms=3):
    """Any load: most halls do not hold it."""
    return {
        name: written(fraction(draw, -size, size, bottoms))
        for name in drawn.wheels
        if draw.random() < 0.6
    }


def held_load(draw, drawn, size=3, bottoms=3):
    """A load that the hall holds, by forces that are drawn."""
    left = {name: Fraction(0) for name in drawn.wheels}
    for part in drawn.parts:
        force = fraction(draw, 0 if part.is_pawl else -size, size, bottoms)
        if part.is_pawl and draw.random() < 0.4:
            force = Fraction(0)
        for name, weight in part.weights.items():
            left[name] -= force * weight
    return {name: written(value) for name, value in left.items() if value or draw.random() < 0.5}


def times(values, factor):
    return {name: written(number(value) * factor) for name, value in values.items()}


def box(draw, wheels=4, parts=4, levers=3):
    """A box of at most that many wheels, parts and positions, with at most 3 pawls in each."""
    drawn = Box(*names(draw.randint(1, wheels)))
    pawls = draw.randint(0, 1)
    for _ in range(draw.randint(0, parts - pawls)):
        drawn.put(tie(draw, drawn.wheels, 4))
    for _ in range(pawls):
        drawn.put(pawl(draw, drawn.wheels))
    for name in draw.sample(["low", "high", "mid", "one", "two"], draw.randint(0, levers)):
        kinds = draw.choices(["tie", "pawl"], k=draw.randint(0, 2))
        drawn.lever(name, *[
            tie(draw, drawn.wheels, 4) if kind == "tie" else pawl(draw, drawn.wheels)
            for kind in kinds
        ])
    return drawn
