"""Point 3 and the opening of the interface: what is no sheet is refused ahead of all else."""

import unittest

from bedsheet.boards import fills
from bedsheet.errors import NoSheet, NoStep
from bedsheet.reasons import done, follows, steps_of
from bedsheet.solving import solved, stands
from tests.plain import BEYOND, FAR, LONG, SHAPES, Case, full_sheet, with_at

RIGHT_TREE = ([], ("full",))
# Steps and trees that no sheet bears: each would be answered with False or refused with NoStep.
WRONG_STEPS = [("field", -1, LONG), ("group", LONG, 0, -LONG)]
WRONG_TREES = [
    ([], ("left",)), (WRONG_STEPS, ("full",)), ([], ("clash", ("field", -1))), ([], ("clash", ("group", LONG, 1))),
    ([], ("clash", ("twice", -1, 1))), ([], ("try", LONG, [])), ([], ("try", -1, [(LONG, RIGHT_TREE)])),
]


def questions(high, wide):
    # Each function with what is handed in behind the sheet: right for some sheet, or wrong for all.
    full = full_sheet(high, wide)
    step = ("field", 0, full[0])
    asked = [(steps_of, []), (solved, [])]
    asked += [(fills, [filled]) for filled in (full, [0] * len(full), [], full + [1])]
    asked += [(follows, [one]) for one in (step, *WRONG_STEPS)]
    asked += [(done, [steps]) for steps in ([], [step], WRONG_STEPS, [step, step])]
    asked += [(stands, [tree]) for tree in (RIGHT_TREE, ([step], ("full",)), *WRONG_TREES)]
    return asked


class NoSheets(Case):
    def check(self, high, wide, wrong):
        for function, rest in questions(high, wide):
            with self.subTest(high=high, wide=wide, wrong=wrong, function=function.__name__, rest=rest):
                self.refused(NoSheet, function, high, wide, list(wrong), *rest)

    def test_another_length(self):
        for high, wide in SHAPES:
            full = full_sheet(high, wide)
            for sheet in (full, [0] * len(full), with_at(full, 0, 0)):
                for wrong in ([], sheet[:-1], sheet[1:], sheet + [1], sheet + [0], [0] + sheet, sheet + sheet):
                    self.check(high, wide, wrong)

    def test_other_numbers(self):
        for high, wide in SHAPES:
            size = high * wide
            full = full_sheet(high, wide)
            for number in (-1, size + 1, *FAR):
                for place in sorted({0, len(full) // 2, len(full) - 1}):
                    for sheet in (full, [0] * len(full)):
                        self.check(high, wide, with_at(sheet, place, number))

    def test_each_place(self):
        for high, wide in ((1, 2), (2, 2), (3, 2)):
            size = high * wide
            full = full_sheet(high, wide)
            for place in range(len(full)):
                for number in (-1, size + 1, LONG, -LONG):
                    self.check(high, wide, with_at(full, place, number))

    def test_another_length_and_other_numbers(self):
        for high, wide in SHAPES:
            for wrong in ([-1], [LONG] * 7, full_sheet(high, wide) + [-LONG]):
                self.check(high, wide, wrong)

    def test_a_sheet_of_another_size(self):
        for high, wide in SHAPES:
            for other_high, other_wide in SHAPES:
                if high * wide != other_high * other_wide:
                    self.check(high, wide, full_sheet(other_high, other_wide))


class Sheets(Case):
    def test_the_edges_are_no_refusal(self):
        for high, wide in SHAPES + BEYOND:
            full = full_sheet(high, wide)
            holed = with_at(full, 0, 0)
            step = ("field", 0, full[0])
            with self.subTest(high=high, wide=wide):
                self.answers(True, follows, high, wide, holed, step)
                self.assertEqual(self.asked(done, high, wide, holed, [step]), full)
                self.assertEqual(self.asked(steps_of, high, wide, full), ([], None))
                self.assertEqual(self.asked(solved, high, wide, full), ([full], RIGHT_TREE))
                self.answers(True, stands, high, wide, holed, ([step], ("full",)))
                self.refused(NoStep, done, high, wide, full, [step])
                for wrong in WRONG_TREES:
                    self.answers(False, stands, high, wide, full, wrong)
                for wrong in WRONG_STEPS:
                    self.answers(False, follows, high, wide, full, wrong)
                    self.refused(NoStep, done, high, wide, full, [wrong])

    def test_one_number_everywhere(self):
        for high, wide in SHAPES[1:]:
            for number in (1, high * wide):
                sheet = [number] * (high * wide) ** 2
                self.answers(False, follows, high, wide, sheet, ("field", 0, number))
                self.assertEqual(self.asked(done, high, wide, sheet, []), sheet)
                self.assertEqual(self.asked(steps_of, high, wide, sheet)[0], [])
                self.assertEqual(self.asked(solved, high, wide, sheet)[0], [])
                self.answers(True, stands, high, wide, sheet, ([], ("clash", ("twice", 0, number))))


if __name__ == "__main__":
    unittest.main()
