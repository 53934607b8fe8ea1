"""Points 7 and 11: how far steps alone lead, and which clash is there then."""

import unittest

from bedsheet.reasons import follows, steps_of
from tests.plain import (
    BEYOND, BY_STEPS, FILLED, LARGE, SHAPES, Case, every_clash, every_step, from_text, full_sheet, has_twice, renamed,
    stirred_sheets, swapped, twice_sheets, ways, with_at, without,
)

# Each has this clash and no other.
ONE_CLASH = [
    (2, 2, from_text("..41 .... 3... 2..."), ("field", 0)),
    (2, 2, from_text(".4.. ...4 3.2. ...."), ("group", 2, 4)),
    (2, 2, from_text("..3. 4... ..2. .4.."), ("group", 6, 4)),
    (3, 3, from_text(".12...... 3.4.9.... 567......" + "." * 9 + "9" + "." * 44), ("group", 18, 9)),
    (3, 3, from_text("2.......2" + "." * 72), ("twice", 0, 2)),
    (3, 3, from_text("3" + "." * 71 + "3........"), ("twice", 9, 3)),
    (3, 3, from_text("1........ .1......." + "." * 63), ("twice", 18, 1)),
]
# From each this step follows and no other.
ONE_STEP = [
    (3, 3, from_text("...1..2.3 .4....... ..5...... 6........ ......... ......... 7........ ......... 8........"),
     ("field", 0, 9)),
    (3, 3, from_text(".234567.. ......... ......... ......... ........1 ......... ......... .......1. ........."),
     ("group", 0, 1, 0)),
    (3, 3, from_text("......... 2........ 3........ 4........ 5........ 6........ 7........ .......1. ....1...."),
     ("group", 0, 1, 9)),
    (3, 3, from_text("..2...... .34.1.... 567...... ......... .1......." + "." * 36), ("group", 0, 1, 18)),
]


class StepsCase(Case):
    def walked(self, high, wide, sheet):
        # The sheet behind the steps and the clash, each step and the clash looked for on the way.
        answer = self.asked(steps_of, high, wide, sheet)
        self.assertIs(type(answer), tuple)
        steps, clash = answer
        self.assertIs(type(steps), list)
        for step in steps:
            self.assertIs(type(step), tuple)
            self.assertEqual(every_clash(high, wide, sheet), [])
            self.assertIn(step, every_step(high, wide, sheet))
            sheet = with_at(sheet, step[1], step[2])
        if clash is None:
            self.assertEqual(every_clash(high, wide, sheet), [])
            self.assertEqual(every_step(high, wide, sheet), [])
        else:
            self.assertIs(type(clash), tuple)
            self.assertIn(clash, every_clash(high, wide, sheet))
        return sheet, clash


class Ordinary(StepsCase):
    def test_all_the_way(self):
        behind, clash = self.walked(3, 3, BY_STEPS)
        self.assertEqual(behind, FILLED)
        self.assertIsNone(clash)
        self.assertEqual(BY_STEPS.count(0), 45)

    def test_sheets_of_all_boxes(self):
        seen = {"field": 0, "group": 0, "twice": 0, "clash behind steps": 0, "stopped": 0, "full": 0}
        for high, wide in SHAPES + [(4, 2), (1, 7)]:
            for sheet in stirred_sheets(high, wide, 40, "steps"):
                with self.subTest(high=high, wide=wide, sheet=sheet):
                    behind, clash = self.walked(high, wide, sheet)
                    if clash is not None:
                        seen[clash[0]] += 1
                        seen["clash behind steps"] += behind != sheet
                    elif behind != sheet:
                        seen["stopped" if 0 in behind else "full"] += 1
                    self.check_ways(high, wide, sheet, behind, clash)
        self.assertGreater(min(seen.values()), 0, seen)

    def check_ways(self, high, wide, sheet, behind, clash):
        for filled in ways(high, wide, sheet, 2):
            self.assertIsNone(clash)
            for number, other in zip(behind, filled, strict=True):
                self.assertIn(number, (0, other))

    def test_large_sheets(self):
        for sheet in LARGE:
            with self.subTest(sheet=sheet):
                self.assertEqual(sheet.count(0), 45)
                self.walked(3, 3, sheet)

    def test_each_field_alone_empty(self):
        for high, wide in SHAPES:
            full = full_sheet(high, wide)
            for place, number in enumerate(full):
                steps, clash = self.asked(steps_of, high, wide, with_at(full, place, 0))
                self.assertIsNone(clash)
                self.assertEqual([step[1:3] for step in steps], [(place, number)])
                self.walked(high, wide, with_at(full, place, 0))

    def test_its_own_steps_follow(self):
        for sheet in stirred_sheets(2, 3, 10, "own"):
            for step in steps_of(2, 3, sheet)[0]:
                self.answers(True, follows, 2, 3, sheet, step)
                sheet = with_at(sheet, step[1], step[2])


class Edges(StepsCase):
    def test_full_already(self):
        for high, wide in SHAPES + BEYOND:
            self.assertEqual(self.asked(steps_of, high, wide, full_sheet(high, wide)), ([], None))

    def test_full_and_wrong(self):
        for high, wide in SHAPES[1:]:
            size = high * wide
            full = full_sheet(high, wide)
            for sheet in (swapped(full, 0, 1), swapped(full, 0, size), renamed(full, size)[:1] + full[1:]):
                steps, clash = self.asked(steps_of, high, wide, sheet)
                self.assertEqual(steps, [])
                self.assertIn(clash, every_clash(high, wide, sheet))

    def test_empty(self):
        self.assertEqual(self.asked(steps_of, 1, 1, [0])[0][0][1:3], (0, 1))
        for high, wide in SHAPES[1:]:
            # Somewhat beyond forty-five empty fields, in the largest.
            self.assertEqual(self.asked(steps_of, high, wide, [0] * (high * wide) ** 2), ([], None))

    def test_one_clash_alone(self):
        for high, wide, sheet, clash in ONE_CLASH:
            with self.subTest(clash=clash):
                self.assertEqual(every_clash(high, wide, sheet), [clash])
                self.assertEqual(self.asked(steps_of, high, wide, sheet), ([], clash))

    def test_one_step_alone(self):
        for high, wide, sheet, step in ONE_STEP:
            with self.subTest(step=step):
                self.assertEqual(every_step(high, wide, sheet), [step])
                self.assertEqual(self.asked(steps_of, high, wide, sheet)[0][:1], [step])
                self.walked(high, wide, sheet)

    def test_a_number_twice(self):
        for high, wide in SHAPES + BEYOND:
            for sheet in twice_sheets(high, wide):
                steps, clash = self.asked(steps_of, high, wide, sheet)
                self.assertEqual(steps, [])
                self.assertIn(clash, every_clash(high, wide, sheet))

    def test_a_number_twice_where_steps_would_follow(self):
        counted = 0
        for high, wide in SHAPES[1:]:
            full = full_sheet(high, wide)
            fields = len(full)
            for place in range(0, fields, 1 + fields // 9):
                for number in (full[place] % (high * wide) + 1, (full[place] + 1) % (high * wide) + 1):
                    sheet = without(with_at(full, place, number), [(place * 7 + 3) % fields, (place * 5 + 1) % fields])
                    if has_twice(high, wide, sheet) and every_step(high, wide, sheet):
                        counted += 1
                        steps, clash = self.asked(steps_of, high, wide, sheet)
                        self.assertEqual(steps, [])
                        self.assertIn(clash, every_clash(high, wide, sheet))
        self.assertGreater(counted, 20)

    def test_asked_again(self):
        asked = [(high, wide, sheet) for high, wide in SHAPES for sheet in stirred_sheets(high, wide, 3, "again")]
        first = [steps_of(*handed) for handed in asked]
        self.assertEqual([steps_of(*handed) for handed in reversed(asked)], first[::-1])


if __name__ == "__main__":
    unittest.main()
