"""The examples of the document, with the answers that it gives."""

import doctest
import importlib
import pathlib
import unittest

FOLDER = pathlib.Path(__file__).parent / "examples"

NAMES = (
    "orders", "overtakings", "codes", "rings", "blocks", "leastrows", "rowmoves", "rowlots", "rowsteps",
    "drawings", "crossings", "fields", "triples", "paths", "roads", "layings", "sixes", "tilings", "shapes", "numbered",
    "inserted", "rowtables", "lots", "slides", "weakly", "weakways", "strongly", "strongways", "strongsums", "pipes",
    "ladders", "pipesums", "climbs", "pipeproducts", "vexing", "nets", "nearnets", "stacks", "countwords",
    "countcarried", "patterns", "bigcounts", "spans", "lifestates", "tellrows", "lifetexts", "lifevalues", "lifebenches",
)


def meant():
    """Return what the document's examples take as known: all functions, and its named values."""
    known = {}
    for name in NAMES:
        known.update(vars(importlib.import_module(f"wiredorders.{name}")))
    known.update({
        "V": (1, 0, 3, 2), "W": (2, 0, 1), "Z": (3, 2, 1, 0), "M": (3, 0, 4, 1, 2),
        "X": ((0, 1), (2, 3), (0, 2), (1, 3), (1, 2)), "Y": ((0, 1), (1, 2), (0, 1)),
        "ONES": ((1, 1),) * 3, "S": (3, (0, 1, 0), ((1, 1),) * 3, 1, 0),
        "L": (("near", 0), ("scale", 1, (2, 1)), ("drop",)),
        "A": (3, ((0,), (1,), (0,))), "B": (3, ((1,), (0,), (1,))), "D": (4, ((0, 2), (1,), (0, 2), (1,))),
    })
    return known


class Examples(unittest.TestCase):
    def check(self, path, known):
        test = doctest.DocTestParser().get_doctest(path.read_text(), known, path.name, str(path), 0)
        told = []
        runner = doctest.DocTestRunner(verbose=False)
        runner.run(test, out=told.append)
        self.assertGreater(runner.tries, 0)
        self.assertEqual(runner.failures, 0, "".join(told))

    def test_document(self):
        for name in NAMES:
            with self.subTest(module=name):
                self.check(FOLDER / f"{name}.txt", meant())

    def test_readme(self):
        self.check(FOLDER.parent.parent / "README.md", {})
