"""Tests of parkedrows.errors: [96]."""

import ast
import pathlib
import unittest

from parkedrows import errors

FOLDER = pathlib.Path(__file__).resolve().parent.parent / "parkedrows"

NAMES = """InvalidRow InvalidTree InvalidCars InvalidNumber InvalidRing InvalidCorner InvalidCode InvalidPath
InvalidSteps InvalidLabelled InvalidCar InvalidSweep InvalidLoad InvalidWeb InvalidField InvalidPoint InvalidPlane
InvalidParting InvalidPoints InvalidTurn InvalidChain InvalidExchanges InvalidExchange InvalidPlaces InvalidHomes
InvalidTable InvalidThing InvalidPlace InvalidFilled InvalidLots InvalidWishes InvalidCounts InvalidBounds
InvalidMesh InvalidSearch InvalidTie InvalidTies InvalidClues InvalidSpots InvalidState InvalidStep InvalidScript
InvalidMarks InvalidText Stuck NothingToUndo NothingToRedo Unlike""".split()


class TestErrors(unittest.TestCase):
    def test_all_are_there_and_no_others(self):
        found = sorted(name for name in vars(errors) if not name.startswith("_"))
        self.assertEqual(sorted(NAMES + ["ParkError", "TooMany"]), found)

    def test_base_class(self):
        self.assertEqual((ValueError,), errors.ParkError.__bases__)
        for name in NAMES + ["TooMany"]:
            self.assertEqual((errors.ParkError,), getattr(errors, name).__bases__, name)

    def test_none_is_a_subclass_of_another_one(self):
        for one in NAMES + ["TooMany"]:
            for other in NAMES + ["TooMany"]:
                if one != other:
                    self.assertFalse(issubclass(getattr(errors, one), getattr(errors, other)), (one, other))

    def test_each_takes_a_message(self):
        for name in NAMES + ["ParkError"]:
            found = getattr(errors, name)
            self.assertEqual("not so", str(found("not so")), name)
            self.assertEqual(("not so",), found("not so").args, name)
            with self.assertRaises(ValueError):
                raise found("not so")

    def test_too_many_takes_its_limit(self):
        for limit in (0, 5, 10 ** 30):
            self.assertEqual(limit, errors.TooMany(limit).limit)
        with self.assertRaises(errors.ParkError):
            raise errors.TooMany(9)
        with self.assertRaises(TypeError):
            errors.TooMany()

    def test_none_has_a_limit_besides(self):
        for name in NAMES:
            self.assertFalse(hasattr(getattr(errors, name)("not so"), "limit"), name)

    def test_each_is_raised_somewhere(self):
        raised = set()
        for path in FOLDER.glob("*.py"):
            for node in ast.walk(ast.parse(path.read_text())):
                if isinstance(node, ast.Raise):
                    raised.add(node.exc.func.id)
        self.assertEqual(set(NAMES + ["TooMany", "TypeError"]), raised)
