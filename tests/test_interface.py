"""The interface: each name is there, in its module, with its arguments."""

import inspect
import unittest

from bedsheet import boards, reasons, solving

FUNCTIONS = [
    (boards, "groups_of", ["high", "wide"]),
    (boards, "fills", ["high", "wide", "sheet", "filled"]),
    (reasons, "follows", ["high", "wide", "sheet", "step"]),
    (reasons, "done", ["high", "wide", "sheet", "steps"]),
    (reasons, "steps_of", ["high", "wide", "sheet"]),
    (solving, "solved", ["high", "wide", "sheet"]),
    (solving, "stands", ["high", "wide", "sheet", "tree"]),
]


class Interface(unittest.TestCase):
    def test_arguments(self):
        for module, name, arguments in FUNCTIONS:
            with self.subTest(name=name):
                self.assertEqual(list(inspect.signature(getattr(module, name)).parameters), arguments)

    def test_called_by_their_names(self):
        step = ("field", 0, 1)
        self.assertEqual(boards.groups_of(high=1, wide=1), [[0], [0], [0]])
        self.assertIs(boards.fills(high=1, wide=1, sheet=[0], filled=[1]), True)
        self.assertIs(reasons.follows(high=1, wide=1, sheet=[0], step=step), True)
        self.assertEqual(reasons.done(high=1, wide=1, sheet=[0], steps=[step]), [1])
        self.assertEqual(len(reasons.steps_of(high=1, wide=1, sheet=[0])[0]), 1)
        self.assertEqual(solving.solved(high=1, wide=1, sheet=[0])[0], [[1]])
        self.assertIs(solving.stands(high=1, wide=1, sheet=[0], tree=([step], ("full",))), True)


if __name__ == "__main__":
    unittest.main()
