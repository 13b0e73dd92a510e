"""The whole document: the interface, points [2] and [3], and long histories of one hall."""

import ast
import importlib
import inspect
import pathlib
import random
import unittest

import drawing
import right
from pawlhall import errors
from pawlhall.boxes import Box, fewest, reach, reaches
from pawlhall.drives import Drive
from pawlhall.elementary import elementary, parted, parted_shown
from pawlhall.errors import HallError, Loose, NothingToUndo, Stuck
from pawlhall.forms import (
    Form, alike, built, least_form, opposite, replaced, unlike_shown,
)
from pawlhall.halls import Hall
from pawlhall.loads import (
    bearing, bearing_shown, held_by, held_shown, shows, tried, verdict,
)
from pawlhall.motions import broken, home_after, work
from pawlhall.numbers import fraction, product, total
from pawlhall.parts import Brake, Chain, Differential, Freewheel, Mesh, OneWay, Part, Ratchet
from pawlhall.texts import (
    forces_text, fraction_text, read_forces, read_fraction, read_turns, turns_text,
)
from pawlhall.wheels import freedom, idle, ratio, seen_from, state_of
from pawlhall.wishes import driven, drives, most, most_shown, settled

PACKAGE = pathlib.Path(__file__).resolve().parent.parent / "pawlhall"

ONE, ZERO, LESS = (1, 1), (0, 1), (-1, 1)

# For each file: its functions with their arguments.
FUNCTIONS = {
    "numbers": {
        "fraction": "(top, bottom=1)", "total": "(*fractions)", "product": "(*fractions)",
    },
    "motions": {
        "broken": "(hall, turns)", "home_after": "(turns)", "work": "(load, turns)",
    },
    "loads": {
        "verdict": "(hall, load)", "tried": "(hall, *parts, load)", "bearing": "(hall, load)",
        "held_by": "(hall, load, wheel)", "shows": "(hall, load, told)",
        "bearing_shown": "(hall, load, told)", "held_shown": "(hall, load, wheel, told)",
    },
    "wheels": {
        "state_of": "(hall, wheel)", "ratio": "(hall, wheel, other)", "freedom": "(hall)",
        "idle": "(hall)", "seen_from": "(hall, wheel, floor)",
    },
    "forms": {
        "least_form": "(hall, outer=())", "alike": "(one, other, outer=())",
        "unlike_shown": "(one, other, outer, told)", "built": "(form)",
        "opposite": "(hall, outer=())", "replaced": "(hall, numbers, outer=())",
    },
    "wishes": {
        "driven": "(hall, wishes)", "most": "(hall, wishes, wheel, *, backward=False)",
        "drives": "(hall, wishes, told)",
        "most_shown": "(hall, wishes, wheel, told, *, backward=False)", "settled": "(hall, wishes)",
    },
    "boxes": {
        "reach": "(box, wishes)", "fewest": "(box, wishes)", "reaches": "(box, wishes, told)",
    },
    "elementary": {
        "elementary": "(hall)", "parted": "(hall, turns)", "parted_shown": "(hall, turns, told)",
    },
    "texts": {
        "fraction_text": "(value)", "turns_text": "(turns)", "forces_text": "(forces)",
        "read_fraction": "(text)", "read_turns": "(text)", "read_forces": "(text)",
    },
}

PROPERTIES = "wheels weights is_pawl text"

# For each file: its classes, the class below which each is, and what stands in its body.
CLASSES = {
    "parts": {
        "Part": (None, "read KINDS __eq__"),
        "Mesh": ("Part", PROPERTIES), "Chain": ("Mesh", PROPERTIES),
        "Differential": ("Part", PROPERTIES), "Brake": ("Part", PROPERTIES),
        "OneWay": ("Part", ""), "Ratchet": ("OneWay", PROPERTIES),
        "Freewheel": ("OneWay", PROPERTIES),
    },
    "halls": {
        "Hall": (
            None,
            "add_wheel put take wheels parts text __len__ __eq__ copy read MOST_WHEELS trial played",
        ),
    },
    "forms": {"Form": (None, "wheels ties pawls text __eq__ read allows holds")},
    "boxes": {"Box": ("Hall", "lever levers at text copy __eq__ read trial")},
    "drives": {
        "Drive": (
            None, "dials now turn spun undo __len__ steps held trial turned tried played",
        ),
    },
}

METHODS = [
    (Hall.__init__, "(self, *names)"), (Hall.add_wheel, "(self, name)"), (Hall.put, "(self, part)"),
    (Hall.take, "(self, number)"), (Hall.copy, "(self)"), (Hall.read, "(text)"),
    (Hall.trial, "(self)"), (Hall.played, "(self, steps)"), (Part.read, "(text)"),
    (Mesh.__init__, "(self, a, b, teeth=1, other_teeth=1)"),
    (Chain.__init__, "(self, a, b, teeth=1, other_teeth=1)"),
    (Differential.__init__, "(self, a, b, carrier, teeth=1, other_teeth=1)"),
    (Brake.__init__, "(self, a)"), (Ratchet.__init__, "(self, a, *, backward=False)"),
    (Freewheel.__init__, "(self, a, b)"), (Form.read, "(text)"), (Form.allows, "(self, *turns)"),
    (Form.holds, "(self, *torques)"), (Box.__init__, "(self, *names)"),
    (Box.lever, "(self, name, *parts)"), (Box.at, "(self, name)"), (Box.copy, "(self)"),
    (Box.read, "(text)"), (Box.trial, "(self)"), (Drive.__init__, "(self, hall)"),
    (Drive.turn, "(self, amounts)"), (Drive.spun, "(self, **amounts)"), (Drive.undo, "(self)"),
    (Drive.now, "(self)"), (Drive.steps, "(self)"), (Drive.held, "(self, *names)"),
    (Drive.trial, "(self)"), (Drive.turned, "(self, names, amounts)"),
    (Drive.tried, "(self, turns)"), (Drive.played, "(self, steps)"),
]


class InterfaceTest(unittest.TestCase):
    def test_functions(self):
        for file, functions in FUNCTIONS.items():
            module = importlib.import_module(f"pawlhall.{file}")
            names = self.defined(file, ast.FunctionDef)
            for name, told in functions.items():
                self.assertEqual(str(inspect.signature(getattr(module, name))), told, name)
                self.assertIn(name, names)

    def test_classes(self):
        for file, classes in CLASSES.items():
            module = importlib.import_module(f"pawlhall.{file}")
            names = self.defined(file, ast.ClassDef)
            for name, (base, inside) in classes.items():
                self.assertIn(name, names)
                one = getattr(module, name)
                self.assertEqual(one.__bases__[0].__name__, base or "object", name)
                for word in inside.split():
                    self.assertIn(word, vars(one), name)

    def test_methods(self):
        for method, told in METHODS:
            self.assertEqual(str(inspect.signature(method)), told, method)

    def test_errors(self):
        values = {"Stuck": 2, "NothingToUndo": 0}
        for name in self.defined("errors", ast.ClassDef):
            if name != "HallError":
                given = [object() for _ in range(values.get(name, 1))]
                error = getattr(errors, name)(*given)
                self.assertIsInstance(error, HallError)
                self.assertEqual(list(vars(error).values()), given)

    def test_no_name_is_missing(self):
        files = sorted(path.stem for path in PACKAGE.glob("*.py"))
        self.assertLessEqual({*FUNCTIONS, *CLASSES, "errors", "__init__"}, set(files))

    def defined(self, file, kind):
        tree = ast.parse((PACKAGE / f"{file}.py").read_text())
        return [node.name for node in tree.body if isinstance(node, kind)]


class ByNameTest(unittest.TestCase):
    def test_constructors_and_methods(self):
        self.assertEqual(Mesh(other_teeth=3, teeth=2, b="b", a="a").text, "mesh a b 2 3")
        self.assertEqual(Chain(other_teeth=3, teeth=2, b="b", a="a").text, "chain a b 2 3")
        gear = Differential(other_teeth=3, teeth=2, carrier="c", b="b", a="a")
        self.assertEqual(gear.text, "differential a b c 2 3")
        self.assertEqual(Brake(a="a").text, "brake a")
        self.assertEqual(Ratchet(backward=True, a="a").text, "ratchet a backward")
        self.assertEqual(Freewheel(b="b", a="a").text, "freewheel a b")
        self.assertEqual(Part.read(text="brake a"), Brake("a"))
        hall = Hall.read(text="wheels a")
        hall.add_wheel(name="b")
        self.assertEqual(hall.put(part=Brake("b")), 0)
        hall.take(number=0)
        self.assertEqual(hall.played(steps=[("put", Brake("a"))]), ["wheels a b; brake a"])
        box = Box.read(text="wheels a; lever low")
        box.lever(name="high")
        self.assertEqual(box.at(name="high").text, "wheels a")
        self.assertEqual(Form.read(text="form a").wheels, ("a",))
        drive = Drive(hall=hall)
        self.assertEqual(drive.turn(amounts={"b": ONE}), {"a": ZERO, "b": ONE})
        self.assertEqual(drive.turned(names=["a"], amounts={"b": ONE})["b"], ONE)
        self.assertEqual(drive.tried(turns=[{"b": ONE}]), [{"a": ZERO, "b": ONE}])
        self.assertEqual(drive.played(steps=[("undo",)])[0]["b"], ONE)

    def test_functions(self):
        hall = Hall.read("wheels a b; freewheel a b; ratchet b")
        load, turns, ask = {"a": LESS}, {"a": ONE, "b": ZERO}, {"a": ONE}
        self.assertEqual(fraction(bottom=4, top=2), (1, 2))
        self.assertIsNone(broken(turns=turns, hall=hall))
        self.assertEqual(home_after(turns={"a": (1, 3)}), 3)
        self.assertEqual(work(turns=turns, load=load), LESS)
        self.assertIs(shows(told=verdict(load=load, hall=hall), load=load, hall=hall), True)
        self.assertEqual(tried(load=load, hall=hall)[0], "holds")
        told = bearing(load=load, hall=hall)
        self.assertIs(bearing_shown(told=told, load=load, hall=hall), True)
        told = held_by(wheel="b", load=load, hall=hall)
        self.assertIs(held_shown(told=told, wheel="b", load=load, hall=hall), True)
        self.assertEqual(state_of(wheel="b", hall=hall), "forward")
        self.assertIsNone(ratio(other="a", wheel="b", hall=hall))
        self.assertEqual((freedom(hall=hall), idle(hall=hall)), (2, []))
        seen = seen_from(floor="o", wheel="a", hall=hall)
        self.assertEqual(least_form(outer=("a",), hall=hall).text, "form a; pawl 1")
        told = alike(outer=("a",), other=Hall("a"), one=hall)
        self.assertIs(unlike_shown(told=told, outer=("a",), other=Hall("a"), one=hall), True)
        self.assertEqual(built(form=least_form(hall=seen)).wheels[:3], ("a", "b", "o"))
        self.assertEqual(opposite(outer=("b",), hall=hall).text, "wheels b; ratchet b backward")
        self.assertEqual(replaced(outer=(), numbers=[], hall=hall), hall)
        told = driven(wishes=ask, hall=hall)
        self.assertIs(drives(told=told, wishes=ask, hall=hall), True)
        told = most(backward=True, wheel="b", wishes=ask, hall=hall)
        self.assertIs(most_shown(backward=True, told=told, wheel="b", wishes=ask, hall=hall), True)
        self.assertEqual(settled(wishes=ask, hall=hall), ask)
        box = Box.read(hall.text)
        self.assertIs(reaches(told=reach(wishes=ask, box=box), wishes=ask, box=box), True)
        self.assertEqual(fewest(wishes={}, box=box), ("reached", {}))
        self.assertEqual(len(list(elementary(hall=hall))), 2)
        told = parted(turns=turns, hall=hall)
        self.assertIs(parted_shown(told=told, turns=turns, hall=hall), True)
        self.assertEqual(read_fraction(text=fraction_text(value=ONE)), ONE)
        self.assertEqual(read_turns(text=turns_text(turns=turns)), turns)
        self.assertEqual(read_forces(text=forces_text(forces=[ONE])), [ONE])


def asked(hall, draw):
    """Calls of all functions about a hall, with drawn arguments: names and functions to call."""
    wheels = hall.wheels
    load = drawing.load(draw, hall)
    wishes = {name: load[name] for name in list(load)[:2]}
    turns = {name: (draw.randint(-1, 1), 1) for name in wheels}
    calls = {
        "verdict": lambda: verdict(hall, load),
        "bearing": lambda: bearing(hall, load),
        "broken": lambda: broken(hall, turns),
        "freedom": lambda: freedom(hall),
        "idle": lambda: idle(hall),
        "form": lambda: least_form(hall).text,
        "opposite": lambda: opposite(hall).text,
        "driven": lambda: driven(hall, wishes),
        "settled": lambda: settled(hall, wishes),
        "replaced": lambda: replaced(hall, list(range(0, len(hall), 2))).text,
        "alike": lambda: alike(hall, Hall(*wheels))[1:] if freedom(hall) < len(wheels) else None,
        "drive": lambda: Drive(hall).now().text,
        "copy": lambda: hall.copy().text,
        "parts": lambda: [dict(part.weights) for part in hall.parts],
    }
    if wheels:
        wheel, other = draw.choice(wheels), draw.choice(wheels)
        part, outer = drawing.pawl(draw, wheels), tuple(draw.sample(wheels, draw.randint(1, len(wheels))))
        calls.update({
            "tried": lambda: tried(hall, part, load=load),
            "held_by": lambda: held_by(hall, load, wheel),
            "state_of": lambda: state_of(hall, wheel),
            "ratio": lambda: ratio(hall, wheel, other),
            "seen_from": lambda: seen_from(hall, wheel, "floor").text,
            "outer form": lambda: least_form(hall, outer).text,
            "most": lambda: most(hall, wishes, wheel),
            "most backward": lambda: most(hall, wishes, wheel, backward=True),
        })
    if len(wheels) + sum(part.is_pawl for part in hall.parts) <= 9:
        calls["elementary"] = lambda: list(elementary(hall))
    return calls


def texts_in(value):
    """The value with forms as their texts."""
    if isinstance(value, tuple):
        return tuple(texts_in(one) for one in value)
    return value.text if isinstance(value, Form) else value


class AskedAgainTest(unittest.TestCase):
    def test_answers_belong_to_the_caller(self):
        for seed in range(60):
            draw = random.Random(seed)
            hall = drawing.any_hall(draw)
            text = hall.text
            for name, call in asked(hall, draw).items():
                first, second = call(), call()
                self.assertEqual(texts_in(first), texts_in(second), (text, name))
                before = str(texts_in(second))
                held = right.holders(first)
                self.assertEqual(len({id(one) for one in held}), len(held), name)
                # Emptied or lengthened, an answer touches no other one.
                for one in held:
                    if seed % 2:
                        one.clear()
                    elif isinstance(one, list):
                        one.append("mine")
                    else:
                        one["mine"] = one
                self.assertEqual(str(texts_in(second)), before, (text, name))
                self.assertEqual(str(texts_in(call())), before, (text, name))
            self.assertEqual(hall.text, text)

    def test_arguments_are_not_kept(self):
        for seed in range(40):
            draw = random.Random(seed)
            hall = drawing.any_hall(draw)
            load = drawing.load(draw, hall)
            kept = dict(load)
            for function in (verdict, bearing, driven, settled):
                told = str(function(hall, load))
                load.clear()
                load.update(kept)
                self.assertEqual(str(function(hall, load)), told)
                self.assertEqual((load, list(load)), (kept, list(kept)))

    def test_motions_in_an_answer_are_not_those_of_another(self):
        box = Box.read("wheels a b; lever low; brake b; lever high; brake a")
        for told in (
            fewest(box, {"a": ONE, "b": ONE}),
            reach(box, {"a": ONE, "b": ONE}),
            reach(Box.read(box.text + "; ratchet b"), {"b": LESS}),
            parted(Hall("a", "b"), {"a": ONE, "b": LESS}),
            most(Hall.read("wheels a b; freewheel a b"), {"a": ONE}, "b", backward=True),
        ):
            held = right.holders(told)
            self.assertEqual(len({id(one) for one in held}), len(held))


class HistoryTest(unittest.TestCase):
    def assert_as_read(self, hall, seed):
        """The hall answers as a hall does that is read from its text."""
        kind = type(hall)
        fresh = kind.read(hall.text)
        self.assertEqual((hall, fresh.wheels, fresh.parts), (fresh, hall.wheels, hall.parts))
        calls = asked(hall, random.Random(seed))
        others = asked(fresh, random.Random(seed))
        for name in calls:
            self.assertEqual(texts_in(calls[name]()), texts_in(others[name]()), (hall.text, name))

    def one_deed(self, draw, hall):
        """Put or take a part, or add a wheel, within the bounds."""
        word = draw.choice(["put", "put", "take", "wheel"])
        if word == "wheel" and len(hall.wheels) < 6:
            hall.add_wheel(draw.choice([name for name in drawing.names(9) if name not in hall.wheels]))
        elif word == "take" and len(hall):
            hall.take(draw.randrange(len(hall)))
        elif hall.wheels and len(hall) < 10:
            pawls = sum(part.is_pawl for part in hall.parts)
            make = drawing.pawl if pawls < 5 and draw.random() < 0.5 else None
            part = make(draw, hall.wheels) if make else drawing.tie(draw, hall.wheels, 4)
            hall.put(part)

    def test_a_long_history_of_a_hall(self):
        for seed in range(4):
            draw = random.Random(seed)
            hall = Hall("a")
            for step in range(40):
                self.one_deed(draw, hall)
                self.assert_as_read(hall, (seed + 1) * step)

    def test_trials_and_answers_in_between(self):
        for seed in range(4):
            draw = random.Random(seed)
            hall = drawing.hall(draw, 4, 3, 2)
            for step in range(8):
                text = hall.text
                with hall.trial():
                    self.one_deed(draw, hall)
                    self.assert_as_read(hall, step)
                    with hall.trial():
                        self.one_deed(draw, hall)
                        self.one_deed(draw, hall)
                        self.assert_as_read(hall, step)
                self.assertEqual(hall.text, text)
                self.assert_as_read(hall, step)
                self.one_deed(draw, hall)

    def test_a_long_history_of_a_box(self):
        for seed in range(3):
            draw = random.Random(seed)
            box = Box("a")
            for step in range(25):
                self.one_deed(draw, box)
                if draw.random() < 0.3 and len(box.levers) < 3:
                    name = draw.choice([name for name in drawing.names(9) if name not in box.levers])
                    box.lever(name, drawing.tie(draw, box.wheels, 3))
                self.assert_as_read(box, step)
                wishes = {box.wheels[0]: ONE}
                fresh = Box.read(box.text)
                self.assertEqual(reach(box, wishes), reach(fresh, wishes))
                self.assertEqual(fewest(box, wishes), fewest(fresh, wishes))
                for name in box.levers:
                    self.assert_as_read(box.at(name), step)

    def test_a_long_history_of_a_drive(self):
        draw = random.Random(5)
        hall = Hall.read("wheels a b c; differential a b c 2 3; freewheel a c")
        drive, turns, made = Drive(hall), [], 0
        for _ in range(80):
            if len(turns) == 24 or draw.random() < 0.2:
                if turns:
                    self.assertEqual(drive.undo(), turns.pop())
                else:
                    with self.assertRaises(NothingToUndo):
                        drive.undo()
            names = draw.sample(hall.wheels, draw.choice([0, 0, 1]))
            amounts = {"a": (draw.randint(-1, 3), 1), draw.choice("bc"): (draw.randint(-3, 1), 1)}
            try:
                turns.append(drive.turned(names, amounts))
                made += 1
            except Stuck as error:
                self.assertTrue(error.load and error.forces)
            except Loose as error:
                self.assertTrue(error.names)
            # A drive that made the same turns at once is as far.
            other = Drive(hall)
            for motion in turns:
                self.assertEqual(other.turn(motion), motion)
            self.assertEqual((drive.dials, list(drive.steps())), (other.dials, list(other.steps())))
            self.assertEqual(drive.now(), hall)
        self.assertGreater(made, 15)


class MainPromiseTest(unittest.TestCase):
    """Point [3], sentence for sentence, for drawn halls."""

    def test_a_pawl_clicks_or_bears(self):
        for seed in range(60):
            draw = random.Random(seed)
            hall = drawing.any_hall(draw)
            told = bearing(hall, drawing.held_load(draw, hall))
            self.assertEqual(told[0], "holds")
            _, motion, forces = told
            for part, force in zip(hall.parts, forces):
                if part.is_pawl:
                    self.assertNotEqual(right.sum_on(part, motion) > 0, force[0] > 0)

    def test_equal_forms_or_a_motion_and_a_load_between_them(self):
        for seed in range(60):
            draw = random.Random(seed)
            one, other = drawing.hall(draw, 3, 1, 2), drawing.hall(draw, 3, 1, 2)
            equal = least_form(one) == least_form(other)
            told = alike(one, other)
            self.assertEqual(told[0] == "alike", equal)
            if not equal:
                self.assertTrue(right.unlike(one, other, one.wheels, told))

    def test_seen_halls_have_one_part_for_each(self):
        for seed in range(40):
            hall = drawing.any_hall(random.Random(seed))
            seen = seen_from(hall, hall.wheels[-1], "o")
            self.assertEqual(len(seen), len(hall) + 1)
            self.assertTrue(all(isinstance(part, Part) for part in seen.parts))
            self.assertEqual(
                [isinstance(part, OneWay) for part in seen.parts[:-1]],
                [part.is_pawl for part in hall.parts],
            )

    def test_as_many_positions_as_wishes(self):
        for seed in range(80):
            draw = random.Random(seed)
            box = drawing.box(draw)
            wishes = drawing.load(draw, box)
            told = fewest(box, wishes)
            if told[0] == "reached":
                self.assertLessEqual(len(told[1]), len(wishes))

    def test_numbers_are_exact(self):
        self.assertEqual(total(*[(1, 3)] * 3), ONE)
        self.assertEqual(product((1, 10**999), (10**999, 1)), ONE)


if __name__ == "__main__":
    unittest.main()
