"""Points [25] and [26]: drives with dials, brakes and undo."""

import inspect
import random
import unittest
from fractions import Fraction

import drawing
import right
from pawlhall import drives
from pawlhall.boxes import Box
from pawlhall.drives import Drive
from pawlhall.errors import (
    HallError, Loose, NothingToUndo, NoWheel, NoWishes, Stuck, Twice,
)
from pawlhall.halls import Hall
from pawlhall.parts import Brake, Chain, Ratchet
from pawlhall.wishes import driven, settled

ONE, TWO, HALF, ZERO, LESS = (1, 1), (2, 1), (1, 2), (0, 1), (-1, 1)

MESH = "wheels a b; mesh a b 1 2"
SUM = "wheels a b c; differential a b c 1 1"
PAWLS = "wheels a b; freewheel a b; ratchet b"


def no_wishes(wheels):
    wrong = [value for value in right.JUNK if not right.is_load(value, wheels)]
    return wrong + [
        {"z": ONE}, {"a": ONE, "z": ZERO}, {"a": 1}, {"a": (1, 0)}, {"a": (2, 2)}, {"a": [1, 1]},
        {"a": (True, 1)}, {"a": None}, {"": ONE}, {1: ONE}, [("a", ONE)], Brake("a"), "a", {"1": ONE},
    ]


class DriveCase(unittest.TestCase):
    def assert_state(self, drive, turns, brakes=()):
        """The drive has made these turns and no others, and these wheels are held."""
        wheels = drive.now().wheels
        dials = {
            name: right.written(sum((right.number(turn[name]) for turn in turns), Fraction(0)))
            for name in wheels
        }
        self.assertEqual(drive.dials, dials)
        self.assertEqual(list(drive.dials), list(wheels))
        self.assertEqual(len(drive), len(turns))
        self.assertEqual(list(drive.steps()), turns)
        parts = drive.now().parts
        self.assertEqual(parts[len(parts) - len(brakes) :], tuple(Brake(name) for name in brakes))
        self.assertTrue(right.plain((drive.dials, list(drive.steps()))))

    def assert_raises(self, error, drive, function, *arguments):
        """The call raises the error and the drive is as before."""
        before = (drive.dials, len(drive), list(drive.steps()), drive.now().text)
        with self.assertRaises(error) as caught:
            function(*arguments)
        self.assertEqual((drive.dials, len(drive), list(drive.steps()), drive.now().text), before)
        return caught.exception


class InterfaceTest(unittest.TestCase):
    def test_the_class_itself_has_its_methods(self):
        self.assertEqual(Drive.__module__, drives.__name__)
        names = "dials now turn spun undo __len__ steps held trial turned tried played"
        for name in names.split():
            self.assertIn(name, vars(Drive))
        self.assertIsInstance(vars(Drive)["dials"], property)

    def test_names_and_arguments(self):
        for name, told in (
            ("__init__", "(self, hall)"),
            ("now", "(self)"),
            ("turn", "(self, amounts)"),
            ("spun", "(self, **amounts)"),
            ("undo", "(self)"),
            ("steps", "(self)"),
            ("held", "(self, *names)"),
            ("trial", "(self)"),
            ("turned", "(self, names, amounts)"),
            ("tried", "(self, turns)"),
            ("played", "(self, steps)"),
        ):
            self.assertEqual(str(inspect.signature(getattr(Drive, name))), told)

    def test_arguments_by_name(self):
        drive = Drive(hall=Hall("a", "b"))
        self.assertEqual(drive.turn(amounts={"a": ONE, "b": ZERO}), {"a": ONE, "b": ZERO})
        self.assertEqual(drive.turned(amounts={"a": ONE}, names=["b"]), {"a": ONE, "b": ZERO})
        self.assertEqual(drive.tried(turns=[]), [])
        self.assertEqual(drive.played(steps=[("undo",)]), [{"a": ONE, "b": ZERO}])
        self.assertEqual(drive.spun(b=ONE, a=TWO), {"a": TWO, "b": ONE})

    def test_steps_is_a_generator(self):
        drive = Drive(Hall("a"))
        drive.turn({"a": ONE})
        self.assertTrue(inspect.isgenerator(drive.steps()))
        self.assertEqual(next(drive.steps()), {"a": ONE})


class TurnTest(DriveCase):
    def test_new(self):
        self.assert_state(Drive(Hall()), [])
        drive = Drive(Hall.read(SUM))
        self.assertEqual(drive.dials, {"a": ZERO, "b": ZERO, "c": ZERO})
        self.assert_state(drive, [])
        self.assertEqual(drive.now(), Hall.read(SUM))

    def test_turns_that_are_granted(self):
        for text, amounts, motion in (
            ("wheels", {}, {}),
            ("wheels a; brake a", {}, {"a": ZERO}),
            ("wheels a; brake a", {"a": ZERO}, {"a": ZERO}),
            ("wheels a", {"a": (-7, 3)}, {"a": (-7, 3)}),
            (MESH, {"b": ONE}, {"a": (-2, 1), "b": ONE}),
            (MESH, {"b": ONE, "a": (-2, 1)}, {"a": (-2, 1), "b": ONE}),
            (SUM, {"c": ONE, "b": ZERO}, {"a": TWO, "b": ZERO, "c": ONE}),
            (PAWLS, {"a": ZERO}, {"a": ZERO, "b": ZERO}),
            (PAWLS, {"b": ONE, "a": TWO}, {"a": TWO, "b": ONE}),
        ):
            drive = Drive(Hall.read(text))
            told = drive.turn(amounts)
            self.assertEqual(told, motion, (text, amounts))
            self.assertEqual(list(told), list(motion))
            self.assert_state(drive, [motion])
            self.assertEqual(drive.turn(amounts), motion)
            self.assert_state(drive, [motion, motion])
            other = Drive(Hall.read(text))
            self.assertEqual(other.spun(**amounts), motion)
            self.assert_state(other, [motion])

    def test_dials_behind_each_deed(self):
        drive, turns = Drive(Hall.read(MESH)), []
        for amount in (ONE, HALF, (-7, 3), ZERO, (5, 6)):
            turns.append(drive.turn({"b": amount}))
            self.assert_state(drive, turns)
        self.assertEqual(drive.dials, {"a": ZERO, "b": ZERO})
        while turns:
            self.assertEqual(drive.undo(), turns.pop())
            self.assert_state(drive, turns)
        error = self.assert_raises(NothingToUndo, drive, drive.undo)
        self.assertIsInstance(error, HallError)

    def test_stuck(self):
        for text, amounts in (
            ("wheels a; brake a", {"a": ONE}),
            ("wheels a b; ratchet a", {"a": LESS}),
            (MESH, {"a": ONE, "b": ONE}),
            (PAWLS, {"b": TWO, "a": ONE}),
        ):
            drive = Drive(Hall.read(text))
            for ask in (lambda: drive.turn(amounts), lambda: drive.spun(**amounts)):
                error = self.assert_raises(Stuck, drive, ask)
                told = ("stuck", error.load, error.forces)
                self.assertTrue(right.driven(drive.now(), amounts, told), (text, told))
                error.load["mine"] = error.forces.append("mine")
                error = self.assert_raises(Stuck, drive, ask)
                told = ("stuck", error.load, error.forces)
                self.assertTrue(right.driven(drive.now(), amounts, told), (text, told))

    def test_loose(self):
        for text, amounts, names in (
            ("wheels a b", {"a": ONE}, ("b",)),
            ("wheels b a", {}, ("b", "a")),
            (SUM, {"c": ONE}, ("a", "b")),
            (SUM, {}, ("a", "b", "c")),
            (PAWLS, {"a": ONE}, ("b",)),
            ("wheels d c b a; chain a b 1 1; freewheel c d", {"c": ONE}, ("d", "b", "a")),
        ):
            drive = Drive(Hall.read(text))
            for ask in (lambda: drive.turn(amounts), lambda: drive.spun(**amounts)):
                error = self.assert_raises(Loose, drive, ask)
                self.assertEqual(error.names, names, (text, amounts))
                self.assertIs(type(error.names), tuple)

    def test_stuck_comes_before_loose(self):
        drive = Drive(Hall.read("wheels a b; brake a"))
        self.assert_raises(Stuck, drive, drive.turn, {"a": ONE})
        self.assert_raises(Loose, drive, drive.turn, {"a": ZERO})

    def test_no_wishes(self):
        drive = Drive(Hall.read("wheels a b; brake a"))
        for amounts in no_wishes(("a", "b")):
            error = self.assert_raises(NoWishes, drive, drive.turn, amounts)
            self.assertIs(error.wishes, amounts)
        for amounts in ({"z": ONE}, {"a": 1}, {"a": (2, 2)}, {"a": None, "b": ONE}, {"b": Brake("a")}):
            with self.assertRaises(NoWishes) as caught:
                drive.spun(**amounts)
            self.assertEqual(caught.exception.wishes, amounts)
            self.assertIs(type(caught.exception.wishes), dict)
        self.assert_state(drive, [])

    def test_wheels_with_names_of_arguments(self):
        drive = Drive(Hall("amounts", "hall", "names", "self"))
        amounts = {"amounts": ONE, "hall": TWO, "names": HALF}
        with drive.held("self"):
            self.assertEqual(drive.spun(**amounts), {**amounts, "self": ZERO})
        drive.turn({"self": ONE, "amounts": ONE, "hall": ZERO, "names": ZERO})
        self.assertEqual(drive.dials["self"], ONE)

    def test_twenty_four_turns(self):
        draw = random.Random(1)
        drive, turns = Drive(Hall.read(SUM)), []
        for _ in range(24):
            amounts = {name: right.written(drawing.fraction(draw, -9, 9, 7)) for name in "ac"}
            turns.append(drive.turn(amounts))
        self.assert_state(drive, turns)
        for _ in range(10):
            self.assertEqual(drive.undo(), turns.pop())
        self.assert_state(drive, turns)

    def test_great_amounts(self):
        great = 10**990
        drive = Drive(Hall.read("wheels a b; mesh a b 999999 999998; ratchet a"))
        one = drive.turn({"a": (great + 1, great)})
        two = drive.turn({"b": (-great, 7)})
        self.assert_state(drive, [one, two])

    def test_drawn(self):
        words = {"turned": 0, Stuck: 0, Loose: 0}
        for seed in range(80):
            draw = random.Random(seed)
            hall = drawing.hall(draw, draw.randint(1, 5), draw.randint(0, 4), draw.randint(0, 2))
            drive, turns = Drive(hall), []
            for _ in range(6):
                names = draw.sample(hall.wheels, draw.randint(0, len(hall.wheels)))
                amounts = {name: right.written(drawing.fraction(draw, -1, 2, 2)) for name in names}
                word = self.one_turn(drive, hall, amounts, turns)
                words[word] += 1
                if turns and draw.random() < 0.3:
                    self.assertEqual(drive.undo(), turns.pop())
                self.assert_state(drive, turns)
        self.assertGreater(min(words.values()), 40, words)

    def one_turn(self, drive, hall, amounts, turns):
        told, known = driven(hall, amounts), settled(hall, amounts)
        if told[0] == "stuck":
            self.assert_raises(Stuck, drive, drive.turn, amounts)
            return Stuck
        loose = tuple(name for name in hall.wheels if name not in known)
        if loose:
            self.assertEqual(self.assert_raises(Loose, drive, drive.turn, amounts).names, loose)
            return Loose
        turns.append(drive.turn(amounts))
        self.assertTrue(right.grants(hall, amounts, turns[-1]))
        self.assertEqual(turns[-1], known)
        return "turned"


class OwnTest(DriveCase):
    def test_the_hall_that_was_passed_may_be_changed(self):
        hall = Hall.read(MESH)
        drive = Drive(hall)
        hall.take(0)
        hall.add_wheel("c")
        hall.put(Brake("c"))
        self.assertEqual(drive.now().text, MESH)
        self.assertEqual(drive.turn({"b": ONE}), {"a": (-2, 1), "b": ONE})
        self.assertEqual(hall.text, "wheels a b c; brake c")

    def test_what_is_returned_may_be_changed(self):
        drive = Drive(Hall.read(MESH))
        motion = {"a": (-2, 1), "b": ONE}
        told = drive.turn({"b": ONE})
        told.clear()
        drive.dials.clear()
        drive.dials["a"] = None
        drive.now().take(0)
        for step in drive.steps():
            step["a"] = "mine"
        for one in drive.tried([{"b": TWO}, {"b": ONE}]):
            one.clear()
        for one in drive.played([("turn", {"b": ONE}), ("undo",)]):
            one["b"] = None
        self.assert_state(drive, [motion])
        self.assertEqual(drive.now().text, MESH)
        told = drive.undo()
        self.assertEqual(told, motion)
        told.clear()
        with drive.trial():
            drive.turn({"b": ONE})
        drive.turn({"b": ONE})
        with drive.trial():
            drive.undo().clear()
        self.assert_state(drive, [motion])

    def test_motions_are_different_objects(self):
        drive = Drive(Hall("a"))
        told = drive.played([("turn", {"a": ONE}), ("undo",), ("turn", {"a": ONE}), ("turn", {"a": ONE})])
        told += list(drive.steps()) + list(drive.steps()) + [drive.dials, drive.dials]
        self.assertEqual(len({id(one) for one in told}), len(told))

    def test_what_is_passed_is_not_changed(self):
        drive = Drive(Hall.read(SUM))
        names, amounts = ["b"], {"a": ONE}
        steps = [("held", names, [("turn", amounts), ("trial", [("turn", amounts)])]), ("undo",)]
        drive.turned(names, amounts)
        with drive.held("b"):
            drive.tried([amounts, amounts])
        drive.played(steps)
        self.assertEqual((names, amounts), (["b"], {"a": ONE}))
        self.assertEqual(
            steps, [("held", ["b"], [("turn", {"a": ONE}), ("trial", [("turn", {"a": ONE})])]), ("undo",)]
        )
        motion = drive.turned(names, amounts)
        amounts["a"] = TWO
        names.append("c")
        self.assertEqual(list(drive.steps())[-1], motion)

    def test_turns_made_while_the_steps_are_listed(self):
        drive = Drive(Hall("a"))
        drive.turn({"a": ONE})
        drive.turn({"a": TWO})
        seen = []
        for step in drive.steps():
            seen.append(step["a"])
            drive.turn({"a": HALF})
        self.assertEqual(seen, [ONE, TWO])
        self.assertEqual(len(drive), 4)

    def test_drives_share_nothing(self):
        hall = Hall("a")
        one, other = Drive(hall), Drive(hall)
        one.turn({"a": ONE})
        self.assertEqual((other.dials, len(other)), ({"a": ZERO}, 0))


class BoxTest(DriveCase):
    TEXT = "wheels a b; chain a b 1 2; lever low; brake b; lever high; ratchet a"

    def test_a_box_with_its_positions(self):
        box = Box.read(self.TEXT)
        drive = Drive(box)
        box.lever("mid")
        self.assertEqual((drive.now(), type(drive.now())), (Box.read(self.TEXT), Box))
        self.assertEqual(drive.now().levers, ("low", "high"))
        # What is driven are the parts that are always there.
        self.assertEqual(drive.turn({"b": LESS}), {"a": (-2, 1), "b": LESS})
        with drive.held("b"):
            now = drive.now()
            self.assertEqual(now.parts, (Chain("a", "b", 1, 2), Brake("b")))
            self.assertEqual(now.at("high").parts, (*now.parts, Ratchet("a")))
        self.assert_state(drive, [{"a": (-2, 1), "b": LESS}])


class HeldTest(DriveCase):
    def test_nested(self):
        drive = Drive(Hall.read(SUM))
        with drive.held("c"):
            self.assert_state(drive, [], ["c"])
            with drive.held("b", "a"):
                self.assert_state(drive, [], ["c", "b", "a"])
                self.assertEqual(drive.now().text, SUM + "; brake c; brake b; brake a")
                with drive.held("c"):
                    self.assert_state(drive, [], ["c", "b", "a", "c"])
                self.assert_state(drive, [], ["c", "b", "a"])
            self.assert_state(drive, [], ["c"])
            with drive.held():
                self.assert_state(drive, [], ["c"])
            motion = drive.turn({"a": ONE})
            self.assertEqual(motion, {"a": ONE, "b": LESS, "c": ZERO})
        self.assert_state(drive, [motion])
        self.assertEqual(drive.now().text, SUM)

    def test_turns_while_held(self):
        drive = Drive(Hall("a", "b"))
        with drive.held("b"):
            error = self.assert_raises(Stuck, drive, drive.turn, {"b": ONE})
            self.assertTrue(
                right.driven(drive.now(), {"b": ONE}, ("stuck", error.load, error.forces))
            )
            self.assertEqual(len(error.forces), 1)
            drive.turn({"a": ONE})
        self.assert_raises(Loose, drive, drive.turn, {"a": ONE})
        # What was turned while a wheel was held stays when it is not.
        self.assertEqual(drive.undo(), {"a": ONE, "b": ZERO})

    def test_ended_by_an_error(self):
        drive = Drive(Hall("a", "b"))
        with self.assertRaises(KeyError):
            with drive.held("a"):
                with self.assertRaises(Stuck):
                    with drive.held("b"):
                        drive.turn({"a": ONE})
                self.assert_state(drive, [], ["a"])
                drive.turn({"b": ONE})
                raise KeyError("b")
        self.assert_state(drive, [{"a": ZERO, "b": ONE}])

    def test_errors_before_the_block_runs(self):
        drive, ran = Drive(Hall.read(SUM)), []
        wrong = [value for value in right.JUNK if value != "a"] + ["d", Brake("a"), ["a"]]
        for value in wrong:
            for names in ((value,), ("a", value), ("a", "a", value, "z")):
                with self.assertRaises(NoWheel) as caught:
                    with drive.held(*names):
                        ran.append(names)
                self.assertIs(caught.exception.name, value)
        for names, name in ((("a", "a"), "a"), (("a", "b", "c", "b", "a"), "b")):
            with self.assertRaises(Twice) as caught:
                with drive.held(*names):
                    ran.append(names)
            self.assertEqual(caught.exception.name, name)
        self.assertEqual(ran, [])
        self.assert_state(drive, [])

    def test_turned(self):
        drive = Drive(Hall.read(SUM))
        motion = drive.turned(["c"], {"b": ONE})
        self.assertEqual(motion, {"a": LESS, "b": ONE, "c": ZERO})
        self.assert_state(drive, [motion])
        with drive.held("a"):
            more = drive.turned([], {"b": TWO})
            self.assertEqual(more, {"a": ZERO, "b": TWO, "c": ONE})
            self.assert_state(drive, [motion, more], ["a"])
        for names, amounts, error, value in (
            (["z"], {"a": ONE}, NoWheel, "z"),
            (["a", "a", "z"], None, NoWheel, "z"),
            (["a", "b", "b"], None, Twice, "b"),
            ([None], {}, NoWheel, None),
        ):
            self.assertEqual(self.assert_raises(error, drive, drive.turned, names, amounts).name, value)
        for value in no_wishes(("a", "b", "c")):
            self.assertIs(self.assert_raises(NoWishes, drive, drive.turned, ["a"], value).wishes, value)
        self.assert_raises(Stuck, drive, drive.turned, ["a", "b"], {"c": ONE})
        error = self.assert_raises(Loose, drive, drive.turned, ["a"], {})
        self.assertEqual(error.names, ("b", "c"))


class TrialTest(DriveCase):
    def test_everything_is_restored(self):
        drive = Drive(Hall("a"))
        turns = [drive.turn({"a": ONE}), drive.turn({"a": TWO})]
        with drive.trial():
            drive.undo()
            drive.undo()
            self.assert_state(drive, [])
            drive.turn({"a": HALF})
            self.assert_state(drive, [{"a": HALF}])
        self.assert_state(drive, turns)
        with drive.trial():
            turns.append(drive.turn({"a": HALF}))
            self.assert_state(drive, turns)
        self.assert_state(drive, turns[:-1])

    def test_nested_and_ended_by_an_error(self):
        drive = Drive(Hall("a", "b"))
        with self.assertRaises(NothingToUndo):
            with drive.trial():
                one = drive.turn({"a": ONE, "b": ZERO})
                with self.assertRaises(KeyError):
                    with drive.trial(), drive.held("b"):
                        drive.undo()
                        drive.turn({"a": TWO})
                        raise KeyError("b")
                self.assert_state(drive, [one])
                with drive.held("a"), drive.trial():
                    drive.turn({"b": ONE})
                    with drive.trial():
                        drive.undo()
                        drive.undo()
                        self.assert_state(drive, [], ["a"])
                    self.assertEqual(len(drive), 2)
                drive.undo()
                drive.undo()
        self.assert_state(drive, [])

    def test_a_block_that_is_left(self):
        drive = Drive(Hall("a"))

        def leave():
            with drive.trial():
                return drive.turn({"a": ONE})

        self.assertEqual(leave(), {"a": ONE})
        for _ in range(2):
            with drive.trial():
                drive.turn({"a": TWO})
                continue
        self.assert_state(drive, [])

    def test_tried(self):
        drive = Drive(Hall.read(MESH))
        turns = [drive.turn({"b": ONE})]
        told = drive.tried([{"a": ONE}, {"b": ONE}])
        self.assertEqual(told, [{"a": ONE, "b": (-1, 2)}, {"a": (-2, 1), "b": ONE}])
        self.assert_state(drive, turns)
        self.assertEqual(drive.tried([]), [])
        with drive.held("a"):
            self.assertEqual(drive.tried([{}, {"a": ZERO}]), [{"a": ZERO, "b": ZERO}] * 2)
            self.assert_state(drive, turns, ["a"])
            error = self.assert_raises(Stuck, drive, drive.tried, [{}, {"b": ONE}, {"z": ONE}])
            self.assertEqual(set(error.load), {"b"})
        wrong = {"z": ONE}
        error = self.assert_raises(NoWishes, drive, drive.tried, [{"a": ONE}, wrong, {"b": ONE}])
        self.assertIs(error.wishes, wrong)
        self.assert_raises(Loose, drive, drive.tried, [{"a": ONE}, {}])
        self.assert_state(drive, turns)


class PlayedTest(DriveCase):
    def test_each_kind_of_step(self):
        drive = Drive(Hall.read(SUM))
        told = drive.played([
            ("turn", {"a": ONE, "b": ONE}),
            ("held", ["b"], [
                ("turn", {"a": TWO}),
                ("trial", [
                    ("turn", {"c": ONE}),
                    ("undo",),
                    ("undo",),
                    ("held", ["a"], [("turn", {})]),
                    ("undo",),
                ]),
                ("turn", {"c": HALF}),
            ]),
            ("trial", []),
            ("held", [], []),
            ("undo",),
        ])
        first = {"a": ONE, "b": ONE, "c": ONE}
        second = {"a": TWO, "b": ZERO, "c": ONE}
        third = {"a": ONE, "b": ZERO, "c": HALF}
        still = {"a": ZERO, "b": ZERO, "c": ZERO}
        self.assertEqual(
            told, [first, second, second, second, second, still, still, third, third]
        )
        self.assert_state(drive, [first, second])
        self.assertEqual(drive.played([]), [])
        held = right.holders(told)
        self.assertEqual(len({id(one) for one in held}), len(held))

    def test_an_error_ends_it(self):
        for step, error, value in (
            (("turn", {"z": ONE}), NoWishes, None),
            (("turn", {"a": ONE}), Stuck, None),
            (("undo",), NothingToUndo, None),
            (("held", ["z"], [("turn", {})]), NoWheel, "z"),
            (("held", ["a", "b", "a"], [("turn", {})]), Twice, "a"),
        ):
            drive = Drive(Hall("a", "b"))
            outside = ("turn", {"a": ONE, "b": ONE})
            with self.assertRaises(error) as caught:
                drive.played([
                    outside,
                    ("held", ["a"], [
                        ("turn", {"b": TWO}),
                        ("trial", [("turn", {"b": ONE}), ("undo",), ("undo",), ("undo",), step]),
                        ("turn", {"b": TWO}),
                    ]),
                    outside,
                ])
            if value is not None:
                self.assertEqual(caught.exception.name, value)
            # Turns made before it outside of trials stay; blocks that it leaves are undone.
            self.assert_state(drive, [{"a": ONE, "b": ONE}, {"a": ZERO, "b": TWO}])
        drive = Drive(Hall("a"))
        drive.turn({"a": ONE})
        drive.turn({"a": TWO})
        with self.assertRaises(Loose):
            drive.played([("undo",), ("turn", {})])
        self.assert_state(drive, [{"a": ONE}])

    def test_sixty_steps_and_blocks_three_deep(self):
        draw = random.Random(2)
        drive, turns = Drive(Hall.read(SUM)), []
        motions = [
            {name: right.written(value) for name, value in zip("abc", (one, two, (one + two) / 2))}
            for one, two in [
                (drawing.fraction(draw, -5, 5, 4), drawing.fraction(draw, -5, 5, 4)) for _ in range(20)
            ]
        ]
        steps, expected = [], []
        for at, motion in enumerate(motions):
            turn = ("turn", {"a": motion["a"], "b": motion["b"]})
            if at % 4 == 3:
                steps += [turn, ("undo",)]
                expected += [motion, motion]
            elif at % 4 == 2:
                steps.append(("trial", [("held", [], [("trial", [turn])])]))
                expected.append(motion)
            else:
                steps.append(turn)
                turns.append(motion)
                expected.append(motion)
        self.assertEqual(drive.played(steps), expected)
        self.assert_state(drive, turns)


if __name__ == "__main__":
    unittest.main()
