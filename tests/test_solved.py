"""Points 8 to 10: the filled sheets that are found, and the tree that shows there are no others."""

import unittest

from bedsheet.boards import fills
from bedsheet.solving import solved, stands
from tests.plain import (
    BEYOND, BY_STEPS, BY_TRYING, FILLED, LARGE, NONE_BEHIND_MANY_STEPS, NONE_BY_TRYING, SEVERAL, SHAPES, Case,
    behind_steps, every_clash, every_step, from_text, full_sheet, plain_ends, plain_fills, plain_stands, stirred_sheets,
    swapped, twice_sheets, ways, with_at, without,
)


def tried_sheets(high, wide, sheet, tree):
    # What stands where each try is made.
    steps, end = tree
    if end[0] != "try":
        return []
    sheet = behind_steps(high, wide, sheet, steps)
    tried = [sheet]
    for number, branch in end[2]:
        tried += tried_sheets(high, wide, with_at(sheet, end[1], number), branch)
    return tried


class SolvedCase(Case):
    def kinds(self, tree):
        self.assertIs(type(tree), tuple)
        steps, end = tree
        self.assertIs(type(steps), list)
        self.assertEqual({type(step) for step in steps} - {tuple}, set())
        self.assertIs(type(end), tuple)
        if end[0] == "clash":
            self.assertEqual(len(end), 2)
            self.assertIs(type(end[1]), tuple)
        elif end[0] == "try":
            self.assertEqual(len(end), 3)
            self.assertIs(type(end[2]), list)
            for branch in end[2]:
                self.assertIs(type(branch), tuple)
                self.kinds(branch[1])
        else:
            self.assertIn(end, (("full",), ("left",)))

    def checked(self, high, wide, sheet):
        # The filled sheets and the tree, held against points 8 to 10, but for how many ways there are.
        answer = self.asked(solved, high, wide, sheet)
        self.assertIs(type(answer), tuple)
        found, tree = answer
        self.assertIs(type(found), list)
        self.kinds(tree)
        for filled in found:
            self.assertIs(type(filled), list)
            self.assertIsNot(filled, sheet)
            self.assertTrue(plain_fills(high, wide, sheet, filled))
            self.assertIs(fills(high, wide, sheet, filled), True)
        self.assertTrue(plain_stands(high, wide, sheet, tree))
        self.answers(True, stands, high, wide, sheet, tree)
        self.check_ends(found, plain_ends(high, wide, sheet, tree))
        for tried in tried_sheets(high, wide, sheet, tree):
            self.assertEqual(every_step(high, wide, tried), [])
        return found, tree

    def check_ends(self, found, ends):
        self.assertEqual(sorted(found), sorted(behind for end, behind in ends if end == ("full",)))
        self.assertIn(len(found), (0, 1, 2))
        if len(found) == 2:
            self.assertNotEqual(found[0], found[1])
        else:
            self.assertNotIn(("left",), [end for end, behind in ends])

    def check(self, high, wide, sheet):
        found, tree = self.checked(high, wide, sheet)
        expected = ways(high, wide, sheet, 2)
        self.assertEqual(len(found), len(expected))
        if len(expected) == 1:
            self.assertEqual(found, expected)
        return found, tree


class Ordinary(SolvedCase):
    def test_by_steps_alone(self):
        found, tree = self.check(3, 3, BY_STEPS)
        self.assertEqual(found, [FILLED])
        self.assertEqual(len(tree[0]), 45)
        self.assertEqual(tree[1], ("full",))

    def test_one_way_by_trying(self):
        found, tree = self.check(3, 3, BY_TRYING)
        self.assertEqual(len(found), 1)
        self.assertEqual(tree[1][0], "try")

    def test_no_way_by_trying(self):
        for sheet in (NONE_BY_TRYING, NONE_BEHIND_MANY_STEPS):
            found, tree = self.check(3, 3, sheet)
            self.assertEqual(found, [])
            self.assertEqual(tree[1][0], "try")

    def test_several_ways(self):
        found, tree = self.check(3, 3, SEVERAL)
        self.assertEqual(len(found), 2)

    def test_large_sheets_with_a_number_changed(self):
        counts = set()
        for sheet in LARGE:
            for place in range(0, 81, 13):
                for number in range(1, 10, 2):
                    if sheet[place]:
                        counts.add(len(self.check(3, 3, with_at(sheet, place, number))[0]))
        self.assertEqual(counts, {0, 1, 2})

    def test_sheets_of_all_boxes(self):
        counts = {}
        tries = 0
        for high, wide in SHAPES + [(4, 2), (1, 7)]:
            for sheet in stirred_sheets(high, wide, 24, "solved"):
                with self.subTest(high=high, wide=wide, sheet=sheet):
                    found, tree = self.check(high, wide, sheet)
                    counts[len(found)] = counts.get(len(found), 0) + 1
                    tries += tree[1][0] == "try"
        self.assertGreater(min(counts.values()), 20)
        self.assertEqual(sorted(counts), [0, 1, 2])
        self.assertGreater(tries, 20)

    def test_counted_ways(self):
        full = from_text("1234 3412 2143 4321")
        three = from_text(".4.. .2.4 2143 43..")
        counted = [
            (without(full, [0, 2, 8, 10]), 1), (without(full, range(0, 16, 5)), 1), (without(full, [0, 1, 8, 9]), 2),
            (three, 3), (without(full, [0, 1, 2, 3, 8, 9, 10, 11]), 4), ([0] * 16, 288),
            (from_text("..41 .... 3... 2..."), 0), (from_text(".4.. ...4 3.2. ...."), 0),
        ]
        for sheet, count in counted:
            with self.subTest(sheet=sheet):
                self.assertEqual(len(ways(2, 2, sheet, 300)), count)
                self.assertEqual(len(self.check(2, 2, sheet)[0]), min(count, 2))

    def test_every_sheet_of_two_by_two_fields(self):
        for high, wide in ((1, 2), (2, 1)):
            for index in range(3 ** 4):
                self.check(high, wide, [index // 3 ** place % 3 for place in range(4)])


class Edges(SolvedCase):
    def test_full_already(self):
        for high, wide in SHAPES + BEYOND:
            full = full_sheet(high, wide)
            found, tree = self.checked(high, wide, full)
            self.assertEqual(found, [full])
            self.assertEqual(tree, ([], ("full",)))

    def test_full_and_wrong(self):
        for high, wide in SHAPES[1:]:
            full = full_sheet(high, wide)
            for sheet in (swapped(full, 0, 1), swapped(full, 0, high * wide), [1] * len(full)):
                self.check_twice(high, wide, sheet)

    def check_twice(self, high, wide, sheet):
        found, tree = self.checked(high, wide, sheet)
        self.assertEqual(found, [])
        self.assertEqual(tree[0], [])
        self.assertEqual(tree[1][0], "clash")
        self.assertIn(tree[1][1], every_clash(high, wide, sheet))

    def test_a_number_twice(self):
        for high, wide in SHAPES:
            full = full_sheet(high, wide)
            for sheet in twice_sheets(high, wide):
                self.check_twice(high, wide, sheet)
            if high * wide > 1:
                for place in range(0, len(full), 5):
                    number = full[place] % (high * wide) + 1
                    self.check_twice(high, wide, with_at(full, place, number))

    def test_empty(self):
        self.assertEqual(self.check(1, 1, [0])[0], [[1]])
        # All but the largest, which has more fields than may be empty.
        for high, wide in SHAPES[1:-1]:
            found, tree = self.checked(high, wide, [0] * (high * wide) ** 2)
            self.assertEqual(len(found), 2)

    def test_somewhat_beyond_forty_five_empty_fields(self):
        sheet = from_text("""
            53..7.... 6..195... .98....6.
            8...6...3 4..8.3..1 7...2...6
            .6....28. ...419..5 ....8..79
        """)
        self.assertEqual(self.check(3, 3, sheet)[0], [FILLED])

    def test_asked_again(self):
        asked = [(high, wide, sheet) for high, wide in SHAPES for sheet in stirred_sheets(high, wide, 3, "again")]
        first = [solved(*handed) for handed in asked]
        self.assertEqual([solved(*handed) for handed in reversed(asked)], first[::-1])


if __name__ == "__main__":
    unittest.main()
