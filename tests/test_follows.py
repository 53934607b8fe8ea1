"""Points 2 to 4 and 6: which steps follow from a sheet."""

import unittest

from bedsheet.reasons import follows
from tests.plain import (
    BEYOND, FAR, GROUPS, SHAPES, Case, every_clash, every_step, from_text, full_sheet, stirred_sheets, twice_sheets,
    with_at,
)

ALMOST = from_text("""
    1 2 3 .
    3 4 1 2
    2 1 4 3
    4 3 2 1
""")


class FollowsCase(Case):
    def yes(self, high, wide, sheet, step):
        self.answers(True, follows, high, wide, sheet, step)

    def no(self, high, wide, sheet, step):
        self.answers(False, follows, high, wide, sheet, step)

    def in_groups(self, high, wide, sheet, place, number, told):
        for group in range(3 * high * wide):
            self.answers(group in told, follows, high, wide, sheet, ("group", place, number, group))


class WrittenOut(FollowsCase):
    def test_one_field(self):
        self.yes(1, 1, [0], ("field", 0, 1))
        self.in_groups(1, 1, [0], 0, 1, (0, 1, 2))
        self.no(1, 1, [1], ("field", 0, 1))
        self.in_groups(1, 1, [1], 0, 1, ())

    def test_the_last_empty_field(self):
        self.yes(2, 2, ALMOST, ("field", 3, 4))
        self.in_groups(2, 2, ALMOST, 3, 4, (0, 7, 9))
        for number in (-4, -1, 0, 1, 2, 3, 5, 8):
            self.no(2, 2, ALMOST, ("field", 3, number))
            self.in_groups(2, 2, ALMOST, 3, number, ())

    def test_a_field_tells_it_and_no_group_does(self):
        # The first field sees 1, 2 and 3 in its row, its column and its box, one in each.
        sheet = from_text("""
            . . . 1
            . 3 . .
            . . . .
            2 . . .
        """)
        self.yes(2, 2, sheet, ("field", 0, 4))
        self.in_groups(2, 2, sheet, 0, 4, ())
        for place, number in ((3, 0), (5, 0), (12, 0), (3, 4), (5, 4), (12, 4)):
            self.no(2, 2, with_at(sheet, place, number), ("field", 0, 4))

    def test_another_number_can_stand_there_too(self):
        sheet = from_text("12.. .... .... ....")
        for number in (3, 4):
            self.no(2, 2, sheet, ("field", 2, number))
            self.no(2, 2, sheet, ("field", 3, number))
        self.yes(2, 2, with_at(sheet, 14, 3), ("field", 2, 4))
        self.yes(2, 2, with_at(sheet, 14, 4), ("field", 2, 3))
        self.no(2, 2, with_at(sheet, 14, 3), ("field", 3, 3))
        self.no(2, 2, with_at(sheet, 14, 3), ("field", 2, 3))

    def test_a_row_alone_tells_it(self):
        sheet = from_text(".2345678. " + "." * 9 * 4 + "........1" + "." * 9 * 3)
        self.in_groups(3, 3, sheet, 0, 1, (0,))
        self.in_groups(3, 3, sheet, 8, 1, ())
        self.no(3, 3, sheet, ("field", 0, 1))
        self.in_groups(3, 3, with_at(sheet, 53, 0), 0, 1, ())

    def test_a_column_alone_tells_it(self):
        sheet = [0] * 81
        for row in range(1, 8):
            sheet[9 * row] = row + 1
        sheet[77] = 1
        self.in_groups(3, 3, sheet, 0, 1, (9,))
        self.in_groups(3, 3, sheet, 72, 1, ())
        self.no(3, 3, sheet, ("field", 0, 1))
        self.in_groups(3, 3, with_at(sheet, 77, 0), 0, 1, ())

    def test_a_box_alone_tells_it(self):
        sheet = from_text("..2...... 345...... 678...... " + "." * 9 * 2 + ".1......." + "." * 9 * 3)
        self.in_groups(3, 3, sheet, 0, 1, (18,))
        self.in_groups(3, 3, sheet, 1, 1, ())
        self.no(3, 3, sheet, ("field", 0, 1))
        self.in_groups(3, 3, with_at(sheet, 46, 0), 0, 1, ())

    def test_boxes_that_are_not_square(self):
        lying = from_text("..2... 345... " + "." * 6 + ".1.... " + "." * 12)
        self.in_groups(2, 3, lying, 0, 1, (12,))
        self.in_groups(3, 2, lying, 0, 1, ())
        standing = from_text(".2.... 34.... .5...1 ...... ...... ......")
        self.in_groups(3, 2, standing, 0, 1, (12,))
        self.in_groups(2, 3, standing, 0, 1, ())

    def test_the_group_has_the_number_already(self):
        sheet = with_at(ALMOST, 4, 0)
        for place in (3, 4):
            for number in (1, 2):
                self.in_groups(2, 2, sheet, place, number, ())

    def test_the_field_is_not_empty(self):
        full = full_sheet(2, 2)
        for place, number in enumerate(full):
            for sheet in (full, with_at(full, (place + 1) % 16, 0), with_at(full, (place + 4) % 16, 0)):
                self.no(2, 2, sheet, ("field", place, number))
                self.in_groups(2, 2, sheet, place, number, ())

    def test_the_field_is_not_in_the_group(self):
        for group, fields in enumerate(GROUPS[2, 2]):
            for inside in fields:
                sheet = with_at(full_sheet(2, 2), inside, 0)
                number = full_sheet(2, 2)[inside]
                self.yes(2, 2, sheet, ("group", inside, number, group))
                for outside in range(16):
                    if outside not in fields:
                        self.no(2, 2, sheet, ("group", outside, number, group))
                        self.no(2, 2, with_at(sheet, outside, 0), ("group", outside, number, group))


class HeldAgainstThePoints(FollowsCase):
    def check(self, high, wide, sheet, following, places, numbers, groups):
        for place in places:
            for number in numbers:
                step = ("field", place, number)
                self.answers(step in following, follows, high, wide, sheet, step)
                for group in groups:
                    step = ("group", place, number, group)
                    self.answers(step in following, follows, high, wide, sheet, step)

    def test_every_place_number_and_group_of_small_sheets(self):
        for high, wide in SHAPES:
            size = high * wide
            if size > 4:
                continue
            for sheet in stirred_sheets(high, wide, 8, "follows") + twice_sheets(high, wide):
                with self.subTest(high=high, wide=wide, sheet=sheet):
                    following = every_step(high, wide, sheet)
                    self.check(
                        high, wide, sheet, following,
                        range(-1, size * size + 1), range(-1, size + 2), range(-1, 3 * size + 1),
                    )

    def test_all_steps_of_larger_sheets_and_what_lies_about_them(self):
        kinds = set()
        for high, wide in SHAPES + [(4, 2), (2, 5)]:
            size = high * wide
            if size <= 4:
                continue
            for sheet in stirred_sheets(high, wide, 4, "follows"):
                following = every_step(high, wide, sheet)
                for step in following[:1] + following[-3:]:
                    kinds.add(step[0])
                    with self.subTest(high=high, wide=wide, sheet=sheet, step=step):
                        self.yes(high, wide, sheet, step)
                        place, number = step[1:3]
                        self.check(high, wide, sheet, following, [place], range(size + 2), range(0, 3 * size, 2))
                        self.check(high, wide, sheet, following, range(0, size * size, 3), [number], step[3:])
        self.assertEqual(kinds, {"field", "group"})

    def test_a_clash_elsewhere_hinders_no_step(self):
        # Point 6 asks for the field and its group alone.
        counted = {"field": 0, "group": 0, "twice": 0}
        for high, wide in ((2, 2), (2, 3), (3, 2)):
            for sheet in stirred_sheets(high, wide, 30, "clash"):
                following = every_step(high, wide, sheet)
                for clash in every_clash(high, wide, sheet):
                    counted[clash[0]] += len(following)
                    for step in following[:4]:
                        self.yes(high, wide, sheet, step)
        self.assertGreater(min(counted.values()), 0)

    def test_a_number_twice_hinders_no_step(self):
        twice_below = from_text("""
            1 2 3 .
            . . . .
            . . 4 .
            . 4 4 .
        """)
        self.yes(2, 2, twice_below, ("field", 3, 4))
        self.in_groups(2, 2, twice_below, 3, 4, (0,))


class AnyWholeNumbers(FollowsCase):
    def test_any_place_number_or_group(self):
        for high, wide in SHAPES:
            size = high * wide
            full = full_sheet(high, wide)
            last = size * size - 1
            for place in sorted({0, last}):
                sheet = with_at(full, place, 0)
                number = full[place]
                following = every_step(high, wide, sheet)
                groups = [step[3] for step in following if step[0] == "group"]
                self.assertEqual(len(groups), 3)
                self.yes(high, wide, sheet, ("field", place, number))
                # Counted from the end, -1 and its like would mean the very field, number or group that is right.
                odd = (-1, -size, size + 1, last + 1, 3 * size, place - last - 1, number - size - 1, *FAR)
                with self.subTest(high=high, wide=wide, place=place):
                    for other in odd:
                        steps = [("field", other, number), ("field", place, other), ("group", place, number, other)]
                        for group in groups:
                            steps += [("group", other, number, group), ("group", place, other, group)]
                            steps += [("group", place, number, group - 3 * size)]
                        for step in steps:
                            self.answers(step in following, follows, high, wide, sheet, step)

    def test_all_of_them_odd(self):
        for high, wide in SHAPES:
            size = high * wide
            for sheet in ([0] * (size * size), full_sheet(high, wide)):
                for place in (-1, size * size, *FAR):
                    for number in (-1, 0, size + 1, *FAR):
                        self.no(high, wide, sheet, ("field", place, number))
                        for group in (-1, 3 * size, *FAR):
                            self.no(high, wide, sheet, ("group", place, number, group))

    def test_nought_as_a_number(self):
        for high, wide in SHAPES + BEYOND:
            size = high * wide
            full = full_sheet(high, wide)
            for sheet in (full, with_at(full, 0, 0), [0] * len(full)):
                self.no(high, wide, sheet, ("field", 0, 0))
                for group in (0, size, 2 * size):
                    self.no(high, wide, sheet, ("group", 0, 0, group))


if __name__ == "__main__":
    unittest.main()
