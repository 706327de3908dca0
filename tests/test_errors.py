"""The error classes."""

import inspect
import unittest

from wiredorders import errors

NAMES = """
InvalidOrder InvalidMany InvalidPlace InvalidThing InvalidExchange InvalidRow InvalidPairs InvalidCode InvalidNumber
InvalidRings InvalidMove InvalidDrawing InvalidCrossing InvalidField InvalidTriples InvalidPath InvalidRoad
InvalidLaying InvalidSquare InvalidSix InvalidShape InvalidCell InvalidTable InvalidPipes InvalidLadder InvalidSum
InvalidValues InvalidClimb NoFall NotVexing InvalidNet InvalidMarks InvalidWord InvalidPattern InvalidPatterns
InvalidPlaces InvalidShares InvalidIndex InvalidState InvalidStep InvalidScript InvalidSpot InvalidFacts InvalidText
NoMove NoRise Held NothingToUndo NothingToRedo Unlike
""".split()


class Errors(unittest.TestCase):
    def test_base(self):
        self.assertEqual(errors.OrderError.__bases__, (ValueError,))
        self.assertEqual(str(errors.OrderError("why")), "why")

    def test_classes(self):
        for name in NAMES:
            error = getattr(errors, name)
            self.assertEqual(error.__bases__, (errors.OrderError,), name)
            self.assertEqual(str(error("why")), "why", name)
            with self.assertRaises(error):
                raise error("why")

    def test_too_many(self):
        self.assertEqual(errors.TooMany.__bases__, (errors.OrderError,))
        for limit in (0, 5, 450):
            error = errors.TooMany(limit)
            self.assertEqual(error.limit, limit)
            self.assertIsInstance(str(error), str)
        with self.assertRaises(TypeError):
            errors.TooMany()

    def test_no_others(self):
        found = {name for name, value in vars(errors).items() if inspect.isclass(value)}
        self.assertEqual(found, set(NAMES) | {"OrderError", "TooMany"})
