"""Point 6: the sheet behind steps that follow one behind the other, and the refusal of any other."""

import random
import unittest

from bedsheet.errors import NoStep
from bedsheet.reasons import done, steps_of
from tests.plain import (
    BY_STEPS, FAR, FILLED, SHAPES, Case, behind_steps, every_clash, every_step, from_text, full_sheet, has_twice,
    stirred_sheets, with_at,
)


def some_steps(high, wide, sheet, seed):
    # Taken at random, so that they are others than the program would take, and go on behind a clash.
    source = random.Random(seed)
    steps = []
    following = every_step(high, wide, sheet)
    while following and len(steps) < 50:
        steps.append(source.choice(following))
        sheet = with_at(sheet, *steps[-1][1:3])
        following = every_step(high, wide, sheet)
    return steps


class DoneCase(Case):
    def check(self, high, wide, sheet, steps):
        expected = behind_steps(high, wide, sheet, steps)
        if expected is None:
            self.refused(NoStep, done, high, wide, sheet, steps)
            return False
        answer = self.asked(done, high, wide, sheet, steps)
        self.assertIs(type(answer), list)
        self.assertEqual(answer, expected)
        self.assertIsNot(answer, sheet)
        return True

    def check_changed(self, high, wide, sheet, steps):
        # How many of the changed lists are refused, and how many are not.
        changed = [steps[:-1], steps + steps[-1:], steps[::-1], steps[1:], steps[:1] + steps]
        changed += [steps[:index] + steps[index + 1:] for index in range(1, len(steps), 1 + len(steps) // 6)]
        results = [self.check(high, wide, sheet, others) for others in changed]
        return results.count(False), results.count(True)


class Ordinary(DoneCase):
    def test_all_told_steps(self):
        steps = steps_of(3, 3, BY_STEPS)[0]
        self.assertEqual(self.asked(done, 3, 3, BY_STEPS, steps), FILLED)
        self.assertEqual(len(steps), 45)
        for index in range(0, 45, 11):
            self.assertTrue(self.check(3, 3, BY_STEPS, steps[:index]))

    def test_told_and_other_steps_and_what_lies_about_them(self):
        refused = 0
        taken = 0
        for high, wide in SHAPES:
            for index, sheet in enumerate(stirred_sheets(high, wide, 6, "done")):
                for steps in (steps_of(high, wide, sheet)[0], some_steps(high, wide, sheet, index)):
                    with self.subTest(high=high, wide=wide, sheet=sheet, steps=steps):
                        self.assertTrue(self.check(high, wide, sheet, steps))
                        counts = self.check_changed(high, wide, sheet, steps)
                        refused += counts[0]
                        taken += counts[1]
        self.assertGreater(refused, 100)
        self.assertGreater(taken, 100)

    def test_none(self):
        for high, wide in SHAPES:
            full = full_sheet(high, wide)
            for sheet in (full, [0] * len(full), with_at(full, 0, 0), [1] * len(full)):
                self.assertTrue(self.check(high, wide, sheet, []))

    def test_the_answer_is_a_list_of_its_own(self):
        sheet = full_sheet(2, 2)
        answer = done(2, 2, sheet, [])
        answer[0] = 0
        self.assertEqual(sheet, full_sheet(2, 2))
        self.assertEqual(done(2, 2, sheet, []), full_sheet(2, 2))

    def test_one_step_makes_the_next_one_follow(self):
        sheet = from_text("12.. .... .... ..3.")
        first = ("field", 2, 4)
        behind = with_at(with_at(sheet, 2, 4), 3, 3)
        for second in (("field", 3, 3), ("group", 3, 3, 0)):
            self.assertEqual(self.asked(done, 2, 2, sheet, [first, second]), behind)
        self.refused(NoStep, done, 2, 2, sheet, [("field", 3, 3)])
        self.refused(NoStep, done, 2, 2, sheet, [("field", 3, 3), first])
        self.assertEqual(self.asked(done, 2, 2, sheet, [("group", 3, 3, 0), first]), behind)


class Edges(DoneCase):
    def test_the_last_one_twice(self):
        for high, wide in SHAPES:
            full = full_sheet(high, wide)
            step = ("field", 0, full[0])
            sheet = with_at(full, 0, 0)
            self.assertEqual(self.asked(done, high, wide, sheet, [step]), full)
            self.refused(NoStep, done, high, wide, sheet, [step, step])
            self.refused(NoStep, done, high, wide, sheet, [step, ("group", 0, full[0], 0)])
            self.refused(NoStep, done, high, wide, full, [step])

    def test_a_wrong_one_first_between_or_last(self):
        sheet = from_text("1... ..1. .2.. ...3")
        steps = steps_of(2, 2, sheet)[0]
        self.assertGreater(len(steps), 3)
        for wrong in (("field", 0, 1), ("field", 15, 4), ("group", 0, 1, 0), ("group", 15, 3, 3)):
            for index in range(len(steps) + 1):
                self.refused(NoStep, done, 2, 2, sheet, steps[:index] + [wrong] + steps[index:])

    def test_any_whole_numbers(self):
        for high, wide in SHAPES:
            size = high * wide
            full = full_sheet(high, wide)
            last = size * size - 1
            sheet = with_at(full, last, 0)
            right = ("group", last, full[last], size - 1)
            self.assertEqual(self.asked(done, high, wide, sheet, [right]), full)
            for odd in (-1, 0, size + 1, last + 1, 3 * size, *FAR):
                for step in (
                    ("field", odd, full[last]), ("field", last, odd), ("group", odd, full[last], size - 1),
                    ("group", last, odd, size - 1), ("group", last, full[last], odd),
                ):
                    with self.subTest(high=high, wide=wide, step=step):
                        self.check(high, wide, sheet, [step])
                        self.refused(NoStep, done, high, wide, sheet, [right, step])

    def test_a_clash_elsewhere_hinders_no_step(self):
        # Point 6 asks for the field and its group alone, also where a number stands twice.
        counted = {"twice": 0, "other": 0}
        for high, wide in ((2, 2), (2, 3), (3, 2)):
            for index, sheet in enumerate(stirred_sheets(high, wide, 30, "clash")):
                steps = some_steps(high, wide, sheet, index)
                if steps and every_clash(high, wide, sheet):
                    counted["twice" if has_twice(high, wide, sheet) else "other"] += 1
                    self.assertTrue(self.check(high, wide, sheet, steps))
        self.assertGreater(min(counted.values()), 0)


if __name__ == "__main__":
    unittest.main()
