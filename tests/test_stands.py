"""Points 8 and 9: which trees of a sheet stand."""

import random
import unittest

from bedsheet.solving import solved, stands
from tests.plain import (
    BY_STEPS, BY_TRYING, FAR, LARGE, NONE_BY_TRYING, SHAPES, Case, every_clash, every_step, from_text, full_sheet,
    has_twice, plain_ends, plain_stands, stirred_sheets, twice_sheets, ways, with_at, without,
)
from tests.trees import FULL, LEFT, changed_trees, clash_end, complete_tree, part_at, paths, some_tree, with_part

# Fields 0, 1, 8 and 9 have 1 and 2 in two ways.
TWO_WAYS = from_text("""
    . . 3 4
    3 4 1 2
    . . 4 3
    4 3 2 1
""")
FOUR_WAYS = without(TWO_WAYS, [2, 3, 10, 11])
THREE_WAYS = from_text(".4.. .2.4 2143 43..")
NO_WAY = from_text("3... 1.2. ..4. ...1")


class StandsCase(Case):
    def yes(self, high, wide, sheet, tree):
        self.answers(True, stands, high, wide, sheet, tree)

    def no(self, high, wide, sheet, tree):
        self.answers(False, stands, high, wide, sheet, tree)

    def check(self, high, wide, sheet, tree):
        expected = plain_stands(high, wide, sheet, tree)
        self.answers(expected, stands, high, wide, sheet, tree)
        return expected

    def check_changed(self, high, wide, sheet, tree, source, most):
        # How many of the changed trees don't stand, and how many do.
        results = []
        trees = changed_trees(high, wide, sheet, tree, source)
        for other in source.sample(trees, min(most, len(trees))):
            with self.subTest(high=high, wide=wide, sheet=sheet, tree=other):
                results.append(self.check(high, wide, sheet, other))
        return results.count(False), results.count(True)


class WrittenOut(StandsCase):
    def test_full(self):
        for high, wide in SHAPES:
            full = full_sheet(high, wide)
            self.yes(high, wide, full, FULL)
            self.no(high, wide, with_at(full, 0, 0), FULL)
            self.no(high, wide, with_at(full, len(full) - 1, 0), FULL)
            self.no(high, wide, [0] * len(full), FULL)
            for place, number in enumerate(full[:4]):
                holed = with_at(full, place, 0)
                self.yes(high, wide, holed, ([("field", place, number)], ("full",)))
                self.yes(high, wide, holed, ([("group", place, number, place // (high * wide))], ("full",)))
                self.no(high, wide, full, ([("field", place, number)], ("full",)))
                self.no(high, wide, holed, ([("field", place, number)] * 2, ("full",)))
                self.no(high, wide, holed, ([("field", place, number + 1)], ("full",)))
                self.no(high, wide, holed, ([("field", place, number - 1)], ("full",)))
                self.yes(high, wide, holed, ([], ("try", place, [(number, FULL)])))
                self.no(high, wide, holed, ([], ("try", place, [])))
                self.no(high, wide, full, ([], ("try", place, [(number, FULL)])))
                self.no(high, wide, full, ([], ("try", place, [])))

    def test_tries(self):
        one = ([("field", 1, 2), ("field", 8, 2), ("field", 9, 1)], ("full",))
        two = ([("field", 1, 1), ("field", 8, 1), ("field", 9, 2)], ("full",))
        self.yes(2, 2, TWO_WAYS, ([], ("try", 0, [(1, one), (2, two)])))
        for branches in (
            [(2, two), (1, one)], [(1, one)], [(2, two)], [], [(1, one), (2, two), (3, LEFT)],
            [(1, one), (1, one), (2, two)], [(1, one), (2, two), (2, two)], [(1, two), (2, one)], [(2, one), (1, two)],
            [(1, one), (3, two)], [(0, LEFT), (1, one), (2, two)], [(1, one), (2, FULL)], [(1, FULL), (2, two)],
            [(1, one), (2, LEFT)],
        ):
            self.no(2, 2, TWO_WAYS, ([], ("try", 0, branches)))
        for place in (1, 2, 8, -16, 16, -1, *FAR):
            self.no(2, 2, TWO_WAYS, ([], ("try", place, [(1, one), (2, two)])))

    def test_a_try_of_a_field_that_can_have_no_number(self):
        sheet = from_text("..41 .... 3... 2...")
        self.no(2, 2, sheet, ([], ("try", 0, [])))
        self.no(2, 2, sheet, ([], ("try", 0, [(1, clash_end(("twice", 0, 1)))])))
        self.yes(2, 2, sheet, clash_end(("field", 0)))

    def test_a_clash_of_each_kind(self):
        field = from_text("..41 .... 3... 2...")
        row = from_text(".4.. ...4 3.2. ....")
        twice = from_text("2..2 .... .... ....")
        self.yes(2, 2, field, clash_end(("field", 0)))
        self.yes(2, 2, row, clash_end(("group", 2, 4)))
        self.yes(2, 2, twice, clash_end(("twice", 0, 2)))
        for sheet in (field, row, twice, TWO_WAYS, [0] * 16, full_sheet(2, 2)):
            there = every_clash(2, 2, sheet)
            for first in (*range(-17, 18), *FAR):
                self.answers(("field", first) in there, stands, 2, 2, sheet, clash_end(("field", first)))
                for number in (*range(-1, 6), *FAR):
                    for kind in ("group", "twice"):
                        clash = (kind, first, number)
                        self.answers(clash in there, stands, 2, 2, sheet, clash_end(clash))

    def test_a_clash_that_a_step_brings(self):
        self.assertEqual(every_clash(2, 2, NO_WAY), [])
        for step, clash in ((("field", 8, 2), ("group", 3, 2)), (("group", 11, 2, 7), ("field", 8))):
            self.yes(2, 2, NO_WAY, ([step], ("clash", clash)))
            self.no(2, 2, NO_WAY, clash_end(clash))
            self.no(2, 2, NO_WAY, ([step], ("clash", ("twice", 0, 3))))
        self.no(2, 2, NO_WAY, ([("field", 8, 2)], ("clash", ("field", 8))))

    def test_steps_go_on_where_a_clash_is(self):
        # Point 9 asks for each step to follow, and no more.
        sheet = from_text("..41 .... 3... 2...")
        self.yes(2, 2, sheet, ([("group", 1, 2, 0)], ("clash", ("field", 0))))
        self.yes(2, 2, sheet, ([], ("try", 1, [(number, clash_end(("field", 0))) for number in (2, 3)])))
        self.no(2, 2, sheet, ([], ("try", 1, [(2, clash_end(("field", 0))), (3, clash_end(("field", 1)))])))

    def test_steps_out_of_order(self):
        sheet = from_text("12.. .... .... ..3.")
        whole = [("field", 2, 4), ("field", 3, 3)]
        end = complete_tree(2, 2, with_at(with_at(sheet, 2, 4), 3, 3))[1]
        for steps, expected in ((whole, True), (whole[::-1], False), (whole[1:], False), (whole + whole[1:], False)):
            self.answers(expected, stands, 2, 2, sheet, (steps, end))


class Left(StandsCase):
    def check_subsets(self, sheet, count):
        tree = complete_tree(2, 2, sheet)
        full = [path for path in paths(tree) if part_at(tree, path) == FULL]
        self.assertEqual(len(full), count)
        self.yes(2, 2, sheet, tree)
        for subset in range(1, 2 ** count):
            other = tree
            for index, path in enumerate(full):
                if subset >> index & 1:
                    other = with_part(other, path, LEFT)
            self.answers(count - subset.bit_count() >= 2, stands, 2, 2, sheet, other)

    def test_with_none_one_two_and_more_full_ends(self):
        self.check_subsets(TWO_WAYS, 2)
        self.check_subsets(THREE_WAYS, 3)
        self.check_subsets(FOUR_WAYS, 4)

    def test_in_the_stead_of_a_clash(self):
        one_way = from_text(".... 1.24 ..12 .1..")
        self.assertEqual(len(ways(2, 2, one_way, 2)), 1)
        for sheet, expected in ((THREE_WAYS, True), (one_way, False), (NO_WAY, False)):
            tree = complete_tree(2, 2, sheet)
            clashes = [path for path in paths(tree) if part_at(tree, path)[1][0] == "clash"]
            self.assertGreater(len(clashes), 0)
            for path in clashes:
                self.answers(expected, stands, 2, 2, sheet, with_part(tree, path, LEFT))

    def test_alone(self):
        for high, wide in SHAPES:
            full = full_sheet(high, wide)
            for sheet in (full, [0] * len(full), with_at(full, 0, 0)):
                self.no(high, wide, sheet, LEFT)
            self.no(high, wide, with_at(full, 0, 0), ([("field", 0, full[0])], ("left",)))

    def test_two_full_ends_and_a_wrong_one(self):
        tree = complete_tree(2, 2, FOUR_WAYS)
        full = [path for path in paths(tree) if part_at(tree, path) == FULL]
        other = with_part(tree, full[1], LEFT)
        self.yes(2, 2, FOUR_WAYS, other)
        for wrong in (clash_end(("field", 0)), ([("field", 0, 1)], ("full",)), ([], ("try", 0, []))):
            self.no(2, 2, FOUR_WAYS, with_part(other, full[0], wrong))
            self.no(2, 2, FOUR_WAYS, with_part(other, full[3], wrong))


class Twice(StandsCase):
    def test_a_clash_without_a_step(self):
        for high, wide in SHAPES[1:]:
            for sheet in twice_sheets(high, wide) + [[1] * (high * wide) ** 2]:
                there = every_clash(high, wide, sheet)
                others = [("field", 0), ("field", 1), ("group", 0, 1), ("twice", 0, 1)]
                for clash in there[:20] + others + [("twice", 0, 0), ("twice", -1, 1)]:
                    self.answers(clash in there, stands, high, wide, sheet, clash_end(clash))

    def test_any_other_end(self):
        full = full_sheet(2, 2)
        for place in range(16):
            sheet = with_at(full, place, full[place] % 4 + 1)
            self.no(2, 2, sheet, FULL)
            self.no(2, 2, sheet, LEFT)
            self.yes(2, 2, sheet, clash_end(("twice", place // 4, sheet[place])))

    def test_steps_and_tries(self):
        # The last field alone is empty, and sees nothing of what stands twice.
        sheet = from_text("""
            1 1 3 4
            3 4 1 2
            2 1 4 3
            4 3 2 .
        """)
        step = ("field", 15, 1)
        twice = ("twice", 0, 1)
        self.assertIn(step, every_step(2, 2, sheet))
        self.assertIsNotNone(plain_ends(2, 2, sheet, ([step], ("clash", twice))))
        self.yes(2, 2, sheet, clash_end(twice))
        self.no(2, 2, sheet, ([step], ("clash", twice)))
        self.no(2, 2, sheet, ([step], ("full",)))
        self.no(2, 2, sheet, ([], ("try", 15, [(1, FULL)])))
        self.no(2, 2, sheet, ([], ("try", 15, [(1, clash_end(twice))])))

    def test_two_full_ends(self):
        sheet = with_at(TWO_WAYS, 15, 3)
        self.assertTrue(has_twice(2, 2, sheet))
        tree = complete_tree(2, 2, sheet)
        self.assertEqual([end for end, behind in plain_ends(2, 2, sheet, tree)], [("full",)] * 2)
        self.no(2, 2, sheet, tree)

    def test_stirred(self):
        counted = 0
        for high, wide in SHAPES[1:]:
            source = random.Random(f"{high} {wide}")
            for sheet in stirred_sheets(high, wide, 30, "twice"):
                if has_twice(high, wide, sheet):
                    counted += 1
                    self.yes(high, wide, sheet, solved(high, wide, sheet)[1])
                    for step in every_step(high, wide, sheet)[:2]:
                        behind = with_at(sheet, step[1], step[2])
                        clash = source.choice(every_clash(high, wide, behind))
                        self.no(high, wide, sheet, ([step], ("clash", clash)))
        self.assertGreater(counted, 20)


class HeldAgainstThePoints(StandsCase):
    def test_told_trees_and_what_lies_about_them(self):
        totals = [0, 0]
        for high, wide in SHAPES:
            source = random.Random(f"{high} {wide} told")
            for sheet in stirred_sheets(high, wide, 5, "told"):
                tree = solved(high, wide, sheet)[1]
                self.yes(high, wide, sheet, tree)
                counts = self.check_changed(high, wide, sheet, tree, source, 60)
                totals = [totals[0] + counts[0], totals[1] + counts[1]]
        self.assertGreater(min(totals), 50)

    def test_trees_by_chance_and_what_lies_about_them(self):
        totals = [0, 0]
        for high, wide in ((1, 2), (2, 2), (1, 3), (2, 3)):
            source = random.Random(f"{high} {wide} chance")
            for sheet in stirred_sheets(high, wide, 20, "chance"):
                if has_twice(high, wide, sheet) or sheet.count(0) > 12:
                    continue
                tree = some_tree(high, wide, sheet, source)
                self.yes(high, wide, sheet, tree)
                counts = self.check_changed(high, wide, sheet, tree, source, 60)
                totals = [totals[0] + counts[0], totals[1] + counts[1]]
        self.assertGreater(min(totals), 50)

    def test_several_ways_and_what_lies_about_them(self):
        source = random.Random(5)
        totals = [0, 0]
        for sheet in (TWO_WAYS, THREE_WAYS, FOUR_WAYS):
            for tree in (complete_tree(2, 2, sheet), solved(2, 2, sheet)[1], some_tree(2, 2, sheet, source)):
                self.yes(2, 2, sheet, tree)
                counts = self.check_changed(2, 2, sheet, tree, source, 200)
                totals = [totals[0] + counts[0], totals[1] + counts[1]]
        self.assertGreater(min(totals), 20)

    def test_large_sheets(self):
        for sheet in LARGE:
            tree = solved(3, 3, sheet)[1]
            self.yes(3, 3, sheet, tree)
            for path in paths(tree)[:6]:
                steps, end = part_at(tree, path)
                for part in ((steps[1:], end), (steps[::-1], end), (steps + steps[-1:], end), (steps, ("full",))):
                    self.check(3, 3, sheet, with_part(tree, path, part))

    def test_another_sheet(self):
        for one in LARGE:
            tree = solved(3, 3, one)[1]
            for other in LARGE:
                self.answers(one == other, stands, 3, 3, other, tree)

    def test_as_deep_as_there_are_empty_fields(self):
        sheet = BY_STEPS
        tries = []
        while 0 in sheet:
            place, number = [step for step in every_step(3, 3, sheet) if step[0] == "field"][0][1:]
            tries.append((place, number))
            sheet = with_at(sheet, place, number)
        self.assertEqual(len(tries), 45)
        tree = FULL
        wrong = clash_end(("field", 0))
        for place, number in tries[::-1]:
            tree = ([], ("try", place, [(number, tree)]))
            wrong = ([], ("try", place, [(number, wrong)]))
        self.yes(3, 3, BY_STEPS, tree)
        self.no(3, 3, BY_STEPS, wrong)
        self.no(3, 3, with_at(BY_STEPS, tries[0][0], tries[0][1]), tree)


class AnyWholeNumbers(StandsCase):
    def test_in_steps_clashes_and_tries(self):
        for sheet in (BY_STEPS, BY_TRYING, NONE_BY_TRYING):
            tree = solved(3, 3, sheet)[1]
            steps, end = tree
            for odd in (-1, 0, 9 + 1, 27, 81, *FAR):
                self.check(3, 3, sheet, ([("field", odd, steps[0][2])] + steps[1:], end))
                self.check(3, 3, sheet, ([("field", steps[0][1], odd)] + steps[1:], end))
                self.no(3, 3, sheet, ([("group", odd, odd, odd)] + steps, end))
                self.no(3, 3, sheet, (steps, ("clash", ("field", odd))))
                self.no(3, 3, sheet, (steps, ("clash", ("group", odd, odd))))
                self.no(3, 3, sheet, (steps, ("clash", ("group", 0, odd))))
                self.no(3, 3, sheet, (steps, ("clash", ("twice", odd, 1))))
                self.no(3, 3, sheet, (steps, ("clash", ("twice", 0, odd))))
                self.no(3, 3, sheet, (steps, ("try", odd, [(odd, FULL)])))
                self.no(3, 3, sheet, (steps, ("try", odd, [])))
                if end[0] == "try":
                    self.check(3, 3, sheet, (steps, ("try", odd, end[2])))
                    self.no(3, 3, sheet, (steps, ("try", end[1], end[2] + [(odd, LEFT)])))
                    self.no(3, 3, sheet, (steps, ("try", end[1], end[2][:-1] + [(odd, end[2][-1][1])])))

    def test_a_number_that_no_sheet_has_is_no_clash(self):
        # It stands nowhere and can stand nowhere, and yet a sheet may fill this one.
        for high, wide in SHAPES:
            size = high * wide
            for sheet in (full_sheet(high, wide), [0] * (size * size)):
                for number in (-1, 0, size + 1, *FAR):
                    for group in (0, size, 3 * size - 1):
                        self.no(high, wide, sheet, clash_end(("group", group, number)))
                        self.no(high, wide, sheet, clash_end(("twice", group, number)))


if __name__ == "__main__":
    unittest.main()
