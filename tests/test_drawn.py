"""Points [9] to [13] for many drawn halls, great numbers, and results that are passed back."""

import random
import unittest

import drawing
import right
from pawlhall.halls import Hall
from pawlhall.loads import bearing, bearing_shown, held_by, held_shown, shows, tried, verdict
from pawlhall.motions import broken, home_after, work
from pawlhall.parts import Differential, Mesh, Part, Ratchet

GREAT = 10**900


class DrawnCase(unittest.TestCase):
    def assert_right(self, hall, load, wheel):
        """Every answer about the load is right, the judges agree, and nothing is changed."""
        text, before = hall.text, (dict(load), list(load))
        told = verdict(hall, load)
        self.assertTrue(right.verdict(hall, load, told), text)
        self.assertIs(shows(hall, load, told), True)
        both = bearing(hall, load)
        self.assertTrue(right.bearing(hall, load, both), text)
        self.assertIs(bearing_shown(hall, load, both), True)
        self.assertEqual(told[0], both[0])
        held = held_by(hall, load, wheel)
        self.assertTrue(right.held(hall, load, wheel, held), text)
        self.assertIs(held_shown(hall, load, wheel, held), True)
        for motion in [one[1] for one in (told, both) if one[0] == "drops"]:
            self.assertIsNone(broken(hall, motion))
            self.assertEqual(list(motion), list(hall.wheels))
            self.assertGreater(work(load, motion)[0], 0)
        self.assertEqual((hall.text, (load, list(load))), (text, before))
        self.assertTrue(right.plain((told, both, held)))
        return told, both, held

    def bearers(self, hall, told):
        return sorted(
            part.text
            for part, force in zip(hall.parts, told[2])
            if part.is_pawl and force[0] > 0
        )


class DrawnTest(DrawnCase):
    def test_small_numbers(self):
        words = []
        for seed in range(700):
            draw = random.Random(seed)
            hall = drawing.any_hall(draw)
            load = (drawing.load if seed % 3 == 0 else drawing.held_load)(draw, hall)
            told, _, held = self.assert_right(hall, load, draw.choice(hall.wheels))
            if seed % 3:
                self.assertEqual(told[0], "holds", hall.text)
            words += [told[0], held[0]]
            if held[0] == "between":
                words.append((type(held[1]) is tuple, type(held[2]) is tuple))
        for word in ("drops", "holds", "never", "between"):
            self.assertGreater(words.count(word), 50, word)
        for one in (False, True):
            for other in (False, True):
                self.assertGreater(words.count((one, other)), 30, (one, other))

    def test_as_many_pawls_as_parts(self):
        for seed in range(100):
            draw = random.Random(seed)
            hall = drawing.hall(draw, draw.randint(2, 8), draw.randint(0, 2), 9)
            load = drawing.held_load(draw, hall) if seed % 2 else drawing.load(draw, hall)
            self.assert_right(hall, load, draw.choice(hall.wheels))

    def test_a_load_is_held_exactly_between_the_ends(self):
        for seed in range(150):
            draw = random.Random(seed)
            hall = drawing.any_hall(draw)
            load = drawing.held_load(draw, hall)
            wheel = draw.choice(hall.wheels)
            word, low, high, _ = held_by(hall, load, wheel)
            self.assertEqual(word, "between")
            for end, sign in ((low, -1), (high, 1)):
                if isinstance(end, list):
                    far = right.added(load, wheel, sign * 10**12)
                    self.assertEqual(verdict(hall, far)[0], "holds")
                    continue
                value = right.number(end[0])
                # The load itself is held, so 0 is between the ends.
                self.assertGreaterEqual(sign * value, 0)
                at = right.added(load, wheel, value)
                self.assertEqual(verdict(hall, at)[0], "holds")
                beyond = right.added(at, wheel, right.number((sign, 10**12)))
                self.assertEqual(verdict(hall, beyond)[0], "drops")

    def test_which_pawls_bear_depends_on_hall_and_load_alone(self):
        for seed in range(150):
            draw = random.Random(seed)
            hall = drawing.any_hall(draw)
            load = drawing.held_load(draw, hall)
            other = Hall(*draw.sample(hall.wheels, len(hall.wheels)))
            for part in draw.sample(hall.parts, len(hall.parts)):
                other.put(part)
            one, two = bearing(hall, load), bearing(other, load)
            self.assertEqual(self.bearers(hall, one), self.bearers(other, two), hall.text)
            doubled = bearing(hall, drawing.times(load, 2))
            self.assertEqual(self.bearers(hall, one), self.bearers(hall, doubled))

    def test_equal_arguments_get_the_same_answers(self):
        for seed in range(100):
            draw = random.Random(seed)
            hall = drawing.any_hall(draw)
            load = drawing.load(draw, hall)
            wheel = draw.choice(hall.wheels)
            other, again = Hall.read(hall.text), dict(reversed(load.items()))
            self.assertEqual(verdict(hall, load), verdict(other, again))
            self.assertEqual(bearing(hall, load), bearing(other, again))
            self.assertEqual(held_by(hall, load, wheel), held_by(other, again, wheel))

    def test_tried(self):
        for seed in range(150):
            draw = random.Random(seed)
            hall = drawing.hall(draw, draw.randint(1, 8), draw.randint(0, 4), draw.randint(0, 3))
            parts = drawing.hall(draw, len(hall.wheels), 2, 1).parts[: draw.randint(0, 3)]
            load = drawing.load(draw, hall)
            text = hall.text
            told = tried(hall, *parts, load=load)
            whole = Hall.read("; ".join([text] + [part.text for part in parts]))
            self.assertTrue(right.verdict(whole, load, told))
            self.assertEqual(hall.text, text)

    def test_bent_answers(self):
        many = 0
        for seed in range(25):
            draw = random.Random(seed)
            hall = drawing.hall(draw, draw.randint(1, 4), draw.randint(0, 2), draw.randint(0, 3))
            load = drawing.held_load(draw, hall) if seed % 2 else drawing.load(draw, hall)
            wheel = draw.choice(hall.wheels)
            for told in right.bent(verdict(hall, load)):
                self.assertIs(shows(hall, load, told), right.verdict(hall, load, told))
            for told in right.bent(bearing(hall, load)):
                self.assertIs(bearing_shown(hall, load, told), right.bearing(hall, load, told))
            for told in right.bent(held_by(hall, load, wheel)):
                answer = right.held(hall, load, wheel, told)
                self.assertIs(held_shown(hall, load, wheel, told), answer)
                many += 1
        self.assertGreater(many, 1000)


class GreatTest(DrawnCase):
    def test_great_tops_and_bottoms(self):
        words = []
        for seed in range(12):
            draw = random.Random(seed)
            hall = drawing.hall(draw, 8, 5, 5, teeth=999999)
            drawn = (drawing.load if seed % 2 else drawing.held_load)(draw, hall, GREAT, GREAT)
            told, _, _ = self.assert_right(hall, drawn, draw.choice(hall.wheels))
            words.append(told[0])
        self.assertEqual(set(words), {"drops", "holds"})

    def test_tiny_and_great_torques_side_by_side(self):
        hall = Hall.read(
            "wheels a b c; freewheel a b; freewheel b c; ratchet c; ratchet c; chain a b 1 999999"
        )
        for load in (
            {"a": (-1, GREAT), "c": (-GREAT, 1)},
            {"a": (-GREAT, 1), "c": (-1, GREAT)},
            {"a": (1, GREAT), "b": (-GREAT, 7)},
        ):
            for wheel in "abc":
                self.assert_right(hall, load, wheel)

    def test_a_hundred_wheels_and_parts(self):
        for seed, ties in ((1, 91), (2, 91), (3, 60), (4, 80)):
            draw = random.Random(seed)
            hall = drawing.hall(draw, 100, ties, 9, teeth=30)
            for load in (drawing.held_load(draw, hall), drawing.load(draw, hall)):
                self.assert_right(hall, load, draw.choice(hall.wheels))

    def test_a_long_row_of_wheels(self):
        draw = random.Random(5)
        wheels = drawing.names(100)
        hall = Hall(*wheels)
        for one, other in zip(wheels, wheels[1:]):
            hall.put(Mesh(one, other, draw.randint(1, 10**6), draw.randint(1, 10**6)))
        hall.put(Ratchet(wheels[50]))
        for load in ({wheels[0]: (-1, 3)}, {wheels[0]: (1, 3)}, {wheels[99]: (-7, 3)}):
            self.assert_right(hall, load, wheels[-1])

    def test_rows_with_great_numbers(self):
        # Each pawl is a sum over eight wheels, made by differentials with great teeth.
        draw = random.Random(6)
        wheels = drawing.names(8)
        hall = Hall(*wheels)
        for row in range(9):
            last, teeth = wheels[0], draw.randint(1, 10**60)
            for at, wheel in enumerate(wheels[1:]):
                more = draw.randint(1, 10**60)
                carrier = f"z{wheels[at]}{drawing.names(9)[row]}"
                hall.add_wheel(carrier)
                hall.put(Differential(last, wheel, carrier, teeth, more))
                last, teeth = carrier, teeth + more
            hall.put(Ratchet(last, backward=row % 2 == 1))
        self.assertEqual((len(hall.wheels), len(hall)), (71, 72))
        for load in (drawing.held_load(draw, hall), {"a": (1, 3), "b": (-2, 1)}):
            self.assert_right(hall, load, "h")


class PassedBackTest(DrawnCase):
    def test_results_as_arguments(self):
        for seed in range(60):
            draw = random.Random(seed)
            hall = drawing.any_hall(draw)
            load = drawing.load(draw, hall)
            told = verdict(hall, load)
            if told[0] == "drops":
                # The motion as a load drops, as its work on itself is positive.
                motion = told[1]
                self.assertEqual(self.assert_right(hall, motion, hall.wheels[0])[0][0], "drops")
                many = home_after(motion)
                self.assertIsNone(broken(hall, drawing.times(motion, many)))
            else:
                forces = told[1]
                torques = dict(zip(hall.wheels, forces))
                self.assert_right(hall, torques, hall.wheels[-1])
                twice = [right.written(2 * right.number(force)) for force in forces]
                self.assertIs(shows(hall, drawing.times(load, 2), ("holds", twice)), True)

    def test_sums_of_answers(self):
        for seed in range(60):
            draw = random.Random(seed)
            hall = drawing.any_hall(draw)
            loads = [drawing.held_load(draw, hall) for _ in range(2)]
            forces = [verdict(hall, load)[1] for load in loads]
            both = {
                name: right.written(
                    sum(right.number(load.get(name, (0, 1))) for load in loads)
                )
                for name in hall.wheels
            }
            summed = [
                right.written(right.number(one) + right.number(other))
                for one, other in zip(*forces)
            ]
            self.assertIs(shows(hall, both, ("holds", summed)), True)

    def test_parts_of_other_halls(self):
        draw = random.Random(7)
        hall = drawing.any_hall(draw)
        other = hall.copy()
        for part in hall.parts:
            self.assertEqual(Part.read(part.text), part)
            other.put(part)
        load = drawing.held_load(draw, hall)
        self.assertEqual(verdict(hall, load)[0], verdict(other, load)[0])
        self.assert_right(other, load, hall.wheels[0])


if __name__ == "__main__":
    unittest.main()
