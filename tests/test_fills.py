"""Points 2 to 5: which sheets fill a sheet, and which lists are no sheet."""

import unittest

from bedsheet.boards import fills
from bedsheet.errors import NoSheet
from tests.plain import BEYOND, LONG, SHAPES, Case, full_sheet, renamed, swapped, with_at, without


def kinds_with_twice(high, wide, numbers):
    # Told apart here by what each field belongs to, without the program's own groups.
    size = high * wide
    kinds = {"row": {}, "column": {}, "box": {}}
    for place, number in enumerate(numbers):
        row, column = divmod(place, size)
        kinds["row"].setdefault(row, []).append(number)
        kinds["column"].setdefault(column, []).append(number)
        kinds["box"].setdefault((row // high, column // wide), []).append(number)
    return [kind for kind, groups in kinds.items() if any(len(set(held)) < len(held) for held in groups.values())]


class FillsCase(Case):
    def yes(self, high, wide, sheet, filled):
        self.answers(True, fills, high, wide, sheet, filled)

    def no(self, high, wide, sheet, filled):
        self.answers(False, fills, high, wide, sheet, filled)

    def no_sheet(self, high, wide, sheet, filled):
        self.refused(NoSheet, fills, high, wide, sheet, filled)


class FillsTrue(FillsCase):
    def test_none_some_and_all_empty(self):
        for high, wide in SHAPES + BEYOND:
            with self.subTest(high=high, wide=wide):
                full = full_sheet(high, wide)
                fields = len(full)
                self.assertEqual(kinds_with_twice(high, wide, full), [])
                self.yes(high, wide, list(full), full)
                self.yes(high, wide, full, full)
                self.yes(high, wide, [0] * fields, full)
                self.yes(high, wide, without(full, range(0, fields, 2)), full)
                self.yes(high, wide, without(full, range(fields // 2)), full)

    def test_each_field_alone_empty_or_alone_told(self):
        for high, wide in SHAPES:
            full = full_sheet(high, wide)
            for place in range(len(full)):
                with self.subTest(high=high, wide=wide, place=place):
                    self.yes(high, wide, with_at(full, place, 0), full)
                    self.yes(high, wide, with_at([0] * len(full), place, full[place]), full)

    def test_several_fill_one_sheet(self):
        for high, wide in SHAPES:
            with self.subTest(high=high, wide=wide):
                full = full_sheet(high, wide)
                self.yes(high, wide, [0] * len(full), renamed(full, high * wide))

    def test_an_ordinary_sheet(self):
        sheet = [
            5, 3, 0, 0, 7, 0, 0, 0, 0,
            6, 0, 0, 1, 9, 5, 0, 0, 0,
            0, 9, 8, 0, 0, 0, 0, 6, 0,
            8, 0, 0, 0, 6, 0, 0, 0, 3,
            4, 0, 0, 8, 0, 3, 0, 0, 1,
            7, 0, 0, 0, 2, 0, 0, 0, 6,
            0, 6, 0, 0, 0, 0, 2, 8, 0,
            0, 0, 0, 4, 1, 9, 0, 0, 5,
            0, 0, 0, 0, 8, 0, 0, 7, 9,
        ]
        filled = [
            5, 3, 4, 6, 7, 8, 9, 1, 2,
            6, 7, 2, 1, 9, 5, 3, 4, 8,
            1, 9, 8, 3, 4, 2, 5, 6, 7,
            8, 5, 9, 7, 6, 1, 4, 2, 3,
            4, 2, 6, 8, 5, 3, 7, 9, 1,
            7, 1, 3, 9, 2, 4, 8, 5, 6,
            9, 6, 1, 5, 3, 7, 2, 8, 4,
            2, 8, 7, 4, 1, 9, 6, 3, 5,
            3, 4, 5, 2, 8, 6, 1, 7, 9,
        ]
        self.yes(3, 3, sheet, filled)
        self.no(3, 3, filled, sheet)
        self.no(3, 3, sheet, renamed(filled, 9))


class FillsFalse(FillsCase):
    def test_a_nought_in_filled(self):
        for high, wide in SHAPES:
            full = full_sheet(high, wide)
            empty = [0] * len(full)
            self.no(high, wide, full, empty)
            self.no(high, wide, empty, list(empty))
            for place in range(len(full)):
                with self.subTest(high=high, wide=wide, place=place):
                    holed = with_at(full, place, 0)
                    self.no(high, wide, empty, holed)
                    self.no(high, wide, full, holed)
                    self.no(high, wide, list(holed), holed)

    def test_another_number_than_the_sheet_has(self):
        for high, wide in SHAPES[1:]:
            size = high * wide
            full = full_sheet(high, wide)
            other = renamed(full, size)
            self.assertEqual(kinds_with_twice(high, wide, other), [])
            self.no(high, wide, full, other)
            for place in range(len(full)):
                with self.subTest(high=high, wide=wide, place=place):
                    told = with_at([0] * len(full), place, full[place])
                    self.yes(high, wide, told, full)
                    self.no(high, wide, told, other)
                    self.no(high, wide, with_at(full, place, other[place]), full)

    def test_twice_in_rows_alone(self):
        for high, wide in [(2, 2), (2, 3), (3, 2), (3, 3)]:
            size = high * wide
            full = full_sheet(high, wide)
            for place in range(size * (size - 1)):
                if place // size % high == high - 1:
                    continue
                with self.subTest(high=high, wide=wide, place=place):
                    wrong = swapped(full, place, place + size)
                    self.assertEqual(kinds_with_twice(high, wide, wrong), ["row"])
                    self.no(high, wide, [0] * len(wrong), wrong)
                    self.no(high, wide, list(wrong), wrong)

    def test_twice_in_columns_alone(self):
        for high, wide in [(2, 2), (2, 3), (3, 2), (3, 3)]:
            full = full_sheet(high, wide)
            for place in range(len(full)):
                if place % wide == wide - 1:
                    continue
                with self.subTest(high=high, wide=wide, place=place):
                    wrong = swapped(full, place, place + 1)
                    self.assertEqual(kinds_with_twice(high, wide, wrong), ["column"])
                    self.no(high, wide, [0] * len(wrong), wrong)
                    self.no(high, wide, list(wrong), wrong)

    def test_twice_in_boxes_alone(self):
        for high, wide in [(2, 2), (2, 3), (3, 2), (3, 3)]:
            size = high * wide
            full = full_sheet(high, wide)
            rows = [full[start:start + size] for start in range(0, size * size, size)]
            # Rows of two bands change places, so that two bands of boxes alone go wrong, each pair in its turn.
            for one in range(size):
                for other in range((one // high + 1) * high, size):
                    with self.subTest(high=high, wide=wide, one=one, other=other):
                        wrong = sum(swapped(rows, one, other), [])
                        self.assertEqual(kinds_with_twice(high, wide, wrong), ["box"])
                        self.no(high, wide, [0] * len(wrong), wrong)
                        self.no(high, wide, list(wrong), wrong)

    def test_boxes_lying_and_standing(self):
        for high, wide in [(2, 3), (3, 2), (2, 4)]:
            with self.subTest(high=high, wide=wide):
                full = full_sheet(high, wide)
                self.assertEqual(kinds_with_twice(wide, high, full), ["box"])
                self.yes(high, wide, [0] * len(full), full)
                self.no(wide, high, [0] * len(full), full)

    def test_thin_boxes(self):
        rows_wrong = [1, 1, 1, 2, 2, 2, 3, 3, 3]
        columns_wrong = [1, 2, 3, 1, 2, 3, 1, 2, 3]
        for high, wide in [(1, 3), (3, 1)]:
            self.no(high, wide, [0] * 9, rows_wrong)
            self.no(high, wide, [0] * 9, columns_wrong)

    def test_the_sheet_has_a_number_twice(self):
        for high, wide in SHAPES[1:]:
            size = high * wide
            full = full_sheet(high, wide)
            # The first field's row, its column, and its box crosswise: each a group alone, where boxes are not thin.
            others = [size - 1, size * (size - 1)] + ([size + 1] if high > 1 and wide > 1 else [])
            for other in others:
                for number in range(1, size + 1):
                    with self.subTest(high=high, wide=wide, other=other, number=number):
                        sheet = with_at(with_at([0] * len(full), 0, number), other, number)
                        self.no(high, wide, sheet, full)
                        self.no(high, wide, sheet, with_at(with_at(full, 0, number), other, number))
                        self.no(high, wide, sheet, list(sheet))


class Refused(FillsCase):
    def lists_of_another_length(self, full):
        empty = [0] * len(full)
        return [[], full[:-1], full[1:], empty[:-1], full + [1], full + [0], empty + [0], full + full]

    def lists_with_other_numbers(self, full, size):
        fields = len(full)
        for number in (-1, size + 1, LONG, -LONG, 10 ** 31, -(10 ** 31)):
            for place in sorted({0, fields // 2, fields - 1}):
                yield with_at(full, place, number)
                yield with_at([0] * fields, place, number)

    def check_both_ways(self, high, wide, wrong):
        full = full_sheet(high, wide)
        for other in (full, [0] * len(full), with_at(full, 0, 0), renamed(full, high * wide)):
            self.no_sheet(high, wide, list(wrong), list(other))
            self.no_sheet(high, wide, list(other), list(wrong))
        self.no_sheet(high, wide, list(wrong), list(wrong))
        self.no_sheet(high, wide, list(wrong), [])
        self.no_sheet(high, wide, [], list(wrong))

    def test_another_length(self):
        for high, wide in SHAPES:
            for wrong in self.lists_of_another_length(full_sheet(high, wide)):
                with self.subTest(high=high, wide=wide, wrong=wrong):
                    self.check_both_ways(high, wide, wrong)

    def test_a_sheet_of_another_size(self):
        for high, wide in SHAPES:
            for other_high, other_wide in SHAPES:
                if high * wide == other_high * other_wide:
                    continue
                with self.subTest(high=high, wide=wide, other_high=other_high, other_wide=other_wide):
                    self.check_both_ways(high, wide, [0] * (other_high * other_wide) ** 2)

    def test_other_numbers(self):
        for high, wide in SHAPES:
            size = high * wide
            for wrong in self.lists_with_other_numbers(full_sheet(high, wide), size):
                with self.subTest(high=high, wide=wide, wrong=wrong):
                    self.check_both_ways(high, wide, wrong)

    def test_each_place(self):
        for high, wide in [(1, 1), (2, 2), (2, 3)]:
            size = high * wide
            full = full_sheet(high, wide)
            for place in range(len(full)):
                for number in (-1, size + 1, LONG, -LONG):
                    with self.subTest(high=high, wide=wide, place=place, number=number):
                        self.check_both_ways(high, wide, with_at(full, place, number))

    def test_the_edges_are_no_refusal(self):
        for high, wide in SHAPES:
            fields = (high * wide) ** 2
            for number in (0, 1, high * wide):
                with self.subTest(high=high, wide=wide, number=number):
                    expected = high * wide == 1 and number == 1
                    self.answers(expected, fills, high, wide, [number] * fields, [number] * fields)


if __name__ == "__main__":
    unittest.main()
